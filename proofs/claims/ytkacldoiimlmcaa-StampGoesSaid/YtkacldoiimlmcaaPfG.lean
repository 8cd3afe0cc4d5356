/- Each operation of a run over plain data is matched by the program's: 'execV_sound'. No program is named here. -/
import Derived.Test.YtkacldoiimlmcaaPfF
import Derived.Lib.AppendStr
import Derived.Lib.ConvBytes
import Derived.Laws.BytesString
namespace Go.Proofs.Ytkacldoiimlmcaa
open Go Go.RowKit

section
variable {E : Env} {n : Nat} {pm : Pm} {m0 m : Lim} {w0 w : World} {β : Nat → Nat} {st : St} {a : Act}

theorem cell_one {v : Value} {u : V} (h : Rd m w v u) (hu : u.cell = true) : v.oneCell' = true := by
  cases h with
  | undef v => simp [V.cell] at hu
  | x v => cases v <;> first | rfl | (simp [V.cell] at hu)
  | agg cs Cs hl h => simp [V.cell] at hu
  | tup cs Cs hl h => simp [V.cell] at hu
  | nil sz tok => rfl
  | emp a cap sz => rfl
  | dyn t v => rfl
  | sl blk off cap sz es tok c hb hcap hsz hc hm hr => rfl
  | ip blk off cs c hb hc hm hr => rfl
  | fm blk ks vs ents clock hb hh hm hk hv hkey hbn hd hr => rfl

theorem cells_one : ∀ {vs : List Value} {us : List V}, RdL m w vs us → us.all V.cell = true → ∀ v ∈ vs, v.oneCell' = true
  | [], [], _, _, v, hv => by simp at hv
  | v0 :: vs, u0 :: us, h, hu, v, hv => by
    simp only [List.all_cons, Bool.and_eq_true] at hu
    cases hv with
    | head => exact cell_one h.1 hu.1
    | tail _ hm => exact cells_one h.2 hu.2 v hm

theorem dat_cells {v : Value} {u : V} (h : Rd m w v u) (hu : u.dat = true) : RdL m w v.cells.toList u.cells :=
  h.cells (by rintro rfl; simp [V.dat] at hu) (by rintro a rfl; simp [V.dat] at hu)

theorem run_storeAny (P : Program) (g o : Nat) (t : TypeId) (fz : Nat × Nat) : ∀ (vs : List Value) (i : Nat) (cur : Array Value) (w : World), w.heap[g]? = some (.cells cur t fz) → (fz.2 = 0 ∨ cur.size ≤ fz.1) → o + i + vs.length ≤ cur.size → (∀ v ∈ vs, v.oneCell' = true) →
    (storeCells ⟨g, o, none⟩ vs i).run P w = .ok () (w.setRow g (cur.toList.take (o + i) ++ vs ++ cur.toList.drop (o + i + vs.length)).toArray)
  | [], i, cur, w, hg, _, _, _ => by
    simp only [storeCells, List.append_nil, List.length_nil, Nat.add_zero, List.take_append_drop, Array.toArray_toList]
    rw [setRow_self w g cur t fz hg]
    rfl
  | v :: rest, i, cur, w, hg, hfz, hl, h1 => by
    have hi : o + i < cur.size := by simp at hl; omega
    have hcell : w.cell? ⟨g, o + i, none⟩ = some cur[o + i] := by simp [World.cell?, hg, hi]
    have hfro : w.frozen? ⟨g, o + i, none⟩ = false := by
      simp only [World.frozen?, hg, Bool.and_eq_false_iff, decide_eq_false_iff_not]
      rcases hfz with h2 | h2
      · right; omega
      · left; omega
    have hst : (store ((⟨g, o, none⟩ : Addr).add i) v).run P w = .ok () (w.setRow g (cur.setIfInBounds (o + i) v)) := by
      rw [Addr_add_eq, run_store P w _ v _ (h1 v (by simp)), hcell]
      simp [hfro, setCell_eq_setRow w g (o + i) cur t fz v hg]
    have ih := run_storeAny P g o t fz rest (i + 1) (cur.setIfInBounds (o + i) v) (w.setRow g (cur.setIfInBounds (o + i) v)) (setRow_heap w g cur _ t _ hg) (by simpa using hfz) (by simp at hl ⊢; omega) (fun x hx => h1 x (by simp [hx]))
    simp only [storeCells, Sem.run_bind, hst, Result.andThen_ok, ih, setRow_setRow]
    congr 3
    have e := list_seg_step cur.toList (o + i) v rest (by simp at hl ⊢; omega)
    simpa [Array.toList_setIfInBounds, Nat.add_assoc] using e

theorem Rel.store (h : Rel E n pm m0 w0 m β st a w) {s : Nat} {cs cs' : List V} {vals vals' : Array Value} {ty : TyAt vals.size} (hs : st.b s = some cs)
    (hh : w.heap[β s]? = some (.cells vals ty.ty ty.fz)) {xs' rest' : List Value} (hx' : vals'.toList = xs' ++ rest') (hr : RdL m w xs' cs') (hlen : cs.length ≤ cs'.length) (hsize : vals'.size = vals.size)
    (hbear : ∀ (j sz : Nat) (es : List V) (s' : Nat) (v : Value), E.MB s = true → cs'[j]? = some (.sl false sz es (some s')) → vals'[j]? = some v → Bear E w β st (fun i => a.tmps.getD i Go.undef) v (.sl false sz es (some s'))) :
    Rel E n pm m0 w0 m β ⟨st.t, upd st.b s (some cs')⟩ a (w.setRow (β s) vals') := by
  obtain ⟨⟨hl, _⟩, hge⟩ := h.boxes s cs hs
  have he : Ext m w m (w.setRow (β s) vals') := by
    refine ⟨by simp, fun blk off v hb hm hc => ?_, fun blk hb fr hf => ⟨fr, hf, Nat.le_refl _⟩, fun blk es c hm hc => by rw [setRow_other w _ _ _ (fun e => by rw [e, hl] at hm; cases hm)]; exact hc⟩
    have hne : blk ≠ β s := by
      rintro rfl
      have := hm 0 hl
      omega
    rw [cell_setRow_other w _ _ _ hne]
    exact hc
  refine ⟨fun i => (h.tmps i).mono he, h.size, fun s' c' hs' => ?_, fun s1 s2 c1 c2 h1 h2 heq => ?_, h.below.setRow hge _, h.par, ⟨h.mold.1, h.mold.2.1.trans he, h.mold.2.2⟩, ?_, h.own.sub (fun i s' sz len c' hi hs' => ?_), h.defers, fun g => (h.glob g).mono he, h.j, h.maps.to (fun i s ks vs hi => ⟨⟨i, hi⟩, rfl⟩) he (fun g e c hg _ => ⟨by rw [setRow_other w _ _ _ (fun hb => by subst hb; rw [hh] at hg; cases hg)]; exact hg, rfl⟩)⟩
  rotate_right
  · simp only [upd_at] at hs'
    split at hs'
    · rename_i e
      cases hs'
      subst e
      exact ⟨i, cs, hi, rfl, hs, hlen, rfl, fun cur ty' hc => by
        rw [hh] at hc
        obtain rfl : vals = cur := by injection hc with hc; injection hc
        exact ⟨vals', ty.to hsize, setRow_heap w _ _ _ _ _ hh, hsize⟩⟩
    · rename_i e
      exact ⟨i, c', hi, rfl, hs', Nat.le_refl _, rfl, fun cur ty' hc => ⟨cur, ty', by rw [setRow_other w _ _ _ (fun hb => e (h.inj s' s c' cs hs' hs hb))]; exact hc, rfl⟩⟩
  · simp only [upd_at] at hs'
    split at hs'
    · rename_i e
      cases hs'
      subst e
      exact ⟨⟨hl, vals', ty.to hsize, xs', rest', setRow_heap w _ _ _ _ _ hh, hx', hr.mono he⟩, hge⟩
    · rename_i e
      obtain ⟨⟨hl', v', ty', xs1, rest1, hh', hx1, hr'⟩, hge'⟩ := h.boxes s' c' hs'
      refine ⟨⟨hl', v', ty', xs1, rest1, ?_, hx1, hr'.mono he⟩, hge'⟩
      rw [setRow_other w _ _ _ (fun hb => e (h.inj s' s c' cs hs' hs hb))]
      exact hh'
  · simp only [upd_at] at h1 h2
    split at h1 <;> split at h2
    · rename_i e1 e2; rw [e1, e2]
    · rename_i e1 e2; subst e1; exact h.inj _ _ _ _ hs h2 heq
    · rename_i e1 e2; subst e2; exact h.inj _ _ _ _ h1 hs heq
    · exact h.inj _ _ _ _ h1 h2 heq
  · obtain ⟨ρ, hrw⟩ := h.rows
    refine ⟨ρ, hrw.to (fun v sz es s' hi => hi.from (fun i hi => .inl ⟨i, hi, rfl⟩) (fun k c j h1 h2 h3 h4 => ?_)) (fun v sz es s' hi => ⟨setRow_other w _ _ _ (fun e => hrw.box _ _ _ _ _ _ hi hs e.symm), rfl⟩) (fun v sz es s' k c hi hk => ?_)⟩
    · have h2 : upd st.b s (some cs') k = some c := h2
      by_cases e : k = s
      · subst e
        rw [upd_same] at h2
        cases h2
        rw [Box.cell (setRow_heap w _ _ _ _ _ hh)] at h4
        exact hbear j sz es s' v h1 h3 h4
      · rw [upd_ne _ _ e] at h2
        have hne : β k ≠ β s := fun hb => e (h.inj _ _ _ _ h2 hs hb)
        rw [cell_setRow_other w _ _ _ hne] at h4
        exact .inr ⟨k, c, j, h1, h2, h3, h4⟩
    · have hk : upd st.b s (some cs') k = some c := hk
      by_cases e : k = s
      · subst e
        exact hrw.box _ _ _ _ _ _ hi hs
      · rw [upd_ne _ _ e] at hk
        exact hrw.box _ _ _ _ _ _ hi hk

theorem splice_get {α : Type} {l q : List α} {off : Nat} (h : off + q.length ≤ l.length) (j : Nat) : (l.take off ++ q ++ l.drop (off + q.length))[j]? = if j < off then l[j]? else if j < off + q.length then q[j - off]? else l[j]? := by
  have h1 : (l.take off).length = off := by rw [List.length_take]; omega
  by_cases c1 : j < off
  · rw [if_pos c1, List.append_assoc, List.getElem?_append_left (by omega), List.getElem?_take, if_pos c1]
  · rw [if_neg c1]
    by_cases c2 : j < off + q.length
    · rw [if_pos c2, List.getElem?_append_left (by rw [List.length_append]; omega), List.getElem?_append_right (by omega), h1]
    · rw [if_neg c2, List.getElem?_append_right (by rw [List.length_append]; omega), List.getElem?_drop, List.length_append, h1]
      congr 1
      omega
theorem bare_not {u : V} (h : u.bare.dat = true) : u.nm = none ∧ u ≠ .undef ∧ ∀ a, u ≠ .x (.agg a) := by
  rw [bare_eq] at h
  cases u <;> first | (simp [bare0, V.dat] at h; done) | (refine ⟨rfl, by simp, ?_⟩; intro a e; first | (cases e; simp [bare0, V.dat] at h; done) | cases e)
theorem storeV_sound (h : Rel E n pm m0 w0 m β st a w) {t : TypeId} {p v : Value} {q u : V} {st' : St} (hp : Rs m w β p q) (hv : Rs m w β v u)
    (hk : ∀ sz es s', u = .sl false sz es (some s') → Bear E w β st (fun i => a.tmps.getD i Go.undef) v u) (hx : storeV E st t q u = some st') :
    ∃ w', (Instr.storeAt t p v).run E.P w = .ok () w' ∧ Rel E n pm m0 w0 m β st' a w' := by
  unfold storeV at hx
  split at hx
  · rename_i s off
    split at hx
    · rename_i cs hcs
      split at hx
      · rename_i hc
        obtain ⟨hd, hone, hsz, hok, hle⟩ := hc
        cases hx
        obtain rfl := hp.ptr
        · obtain ⟨⟨_, vals, ty, xs, rest, hh, hvs, hr⟩, _⟩ := h.boxes _ _ hcs
          have hrd := dat_cells (hv.bare.dat hd) hd
          obtain ⟨hnm, hnu, hna⟩ := bare_not hd
          have hrk : RdL m w v.cells.toList (E.kept s u).cells := by
            unfold Env.kept
            split
            · exact (hv.rd hnm).cells hnu hna
            · exact hrd
          have hlen := hrd.length
          have hlenk := hrk.length
          have hlen2 := hr.length
          simp only [Array.length_toList] at hlen hlenk
          have hvl : vals.size = xs.length + rest.length := by rw [← Array.length_toList, hvs, List.length_append]
          have hst := run_storeAny E.P (β s) off ty.ty ty.fz v.cells.toList 0 vals w hh ty.ok (by simp; omega) (cells_one hrd hone)
          have hvc : v.cells.toList.length = u.bare.cells.length := by simpa using hlen
          have hkc : (E.kept s u).cells.length = u.bare.cells.length := by omega
          refine ⟨_, ?_, h.store (vals' := (vals.toList.take (off + 0) ++ v.cells.toList ++ vals.toList.drop (off + 0 + v.cells.toList.length)).toArray) (xs' := xs.take off ++ v.cells.toList ++ xs.drop (off + u.bare.cells.length)) (rest' := rest) hcs hh ?_ ?_ ?_ ?_ ?_⟩
          · simp only [Instr.storeAt, Instr.sureAddr, storeVar, Sem.run_bind, Sem.run_pure, Result.andThen_ok, run_szB hsz]
            rw [if_neg (by omega)]
            exact hst
          · simp only [Nat.add_zero, hvc, hvs]
            rw [List.take_append_of_le_length (by omega), List.drop_append_of_le_length (by omega)]
            simp only [List.append_assoc]
          · exact ((hr.take off).append hrk).append (hr.drop (off + u.bare.cells.length))
          · simp only [List.length_append, List.length_take, List.length_drop]; omega
          · simp only [List.size_toArray, List.length_append, List.length_take, List.length_drop, hvc, Array.length_toList, Nat.add_zero]; omega
          · intro j sz es s' x hM hu hx
            rw [← hkc, splice_get (by omega)] at hu
            rw [List.getElem?_toArray, Nat.add_zero, splice_get (by have := Array.length_toList (xs := vals); omega)] at hx
            have hold : ∀ (hu : cs[j]? = some (.sl false sz es (some s'))) (hx : vals.toList[j]? = some x), Bear E w β st (fun i => a.tmps.getD i Go.undef) x (.sl false sz es (some s')) := fun hu hx =>
              .inr ⟨s, cs, j, hM, hcs, hu, by rw [Box.cell hh]; simpa using hx⟩
            split at hu
            · rename_i c1
              rw [if_pos c1] at hx
              exact hold hu hx
            · rename_i c1
              rw [if_neg c1] at hx
              split at hu
              · rename_i c2
                rw [if_pos (by omega)] at hx
                simp only [Env.kept, hM, if_true] at hu
                simp only [Env.okS, hM, Bool.not_true, Bool.false_or, Bool.or_eq_true] at hok
                rcases hok with hsl | hall
                · cases u with
                  | sl nl' sz' es' tok' =>
                    simp only [V.cells, List.getElem?_singleton] at hu
                    split at hu
                    · rename_i e0
                      have hu := Option.some.inj hu
                      obtain ⟨ad, cap, rfl, _, _⟩ := hv.sl
                      rw [e0] at hx
                      have hx : some (Value.slice ad es'.length cap) = some x := by simpa [Value.cells] using hx
                      cases hx
                      rw [hu] at hk
                      exact hk sz es s' rfl
                    · cases hu
                  | _ => cases hsl
                · have := List.all_eq_true.1 hall _ (List.mem_of_getElem? hu)
                  cases this
              · rename_i c2
                rw [if_neg (by omega)] at hx
                exact hold hu hx
      · simp at hx
    · simp at hx
  · simp at hx

theorem args_rd (h : Rel E n pm m0 w0 m β st a w) : ∀ (l : List Operand), (l.map fun x => (ev E st x).bare).all V.dat = true → RdL m w (l.map a.eval) (l.map fun x => (ev E st x).bare)
  | [], _ => trivial
  | x :: l, hd => by
    simp only [List.map_cons, List.all_cons, Bool.and_eq_true] at hd
    exact ⟨(ev_sound h x).bare.dat hd.1, args_rd h l hd.2⟩

theorem newV_sound (h : Rel E n pm m0 w0 m β st a w) {o : Oper} (hd : ∀ k, o.dst = some k → k < n) {cs : List V} {st' : St} (hx : newV st o.dst cs = some st') (hmb : E.okN o.dst cs = true)
    {vals : Array Value} {ty : TypeId} (hr : RdL m w vals.toList cs) : ∃ m' β', Rel E n pm m0 w0 m' β' st' (a.put o.dst (.pointer (some ⟨w.heap.size, 0, none⟩))) (w.alloc (.cells vals ty)) := by
  unfold newV at hx
  split at hx
  · rename_i s hs
    split at hx
    · rename_i hn
      cases hx
      rw [hs]
      exact ⟨_, _, h.new (hd s hs) hn hr (hs ▸ hmb)⟩
    · simp at hx
  · simp at hx

theorem bare_tok {v : Value} (u : V) (sz : Nat) (es : List V) (s : Nat) (h : u.bare = .sl false sz es (some s)) : Bear E w β st (fun i => a.tmps.getD i Go.undef) v u.bare := by
  rw [bare_eq] at h
  cases u <;> cases h

/-- The cells of a row, one behind the other. -/
structure Flat (m : Lim) (w : World) (cs : List Value) (sz : Nat) (es : List V) : Prop where
  len : cs.length = es.length * sz
  each : ∀ (i : Nat) (e : V), es[i]? = some e → e.cells.length = sz ∧ ∀ (j : Nat) (d : V), e.cells[j]? = some d → ∃ x, cs[i * sz + j]? = some x ∧ Rd m w x d

theorem lt_of_some {α : Type} {l : List α} {i : Nat} {x : α} (h : l[i]? = some x) : i < l.length := by
  rcases Nat.lt_or_ge i l.length with h' | h'
  · exact h'
  · simp [List.getElem?_eq_none h'] at h

theorem Flat.nil (sz : Nat) : Flat m w [] sz [] := ⟨by simp, fun i e h => by simp at h⟩
theorem Flat.mono {m' : Lim} {w' : World} (he : Ext m w m' w') {cs : List Value} {sz : Nat} {es : List V} (h : Flat m w cs sz es) : Flat m' w' cs sz es :=
  ⟨h.len, fun i e hi => ⟨(h.each i e hi).1, fun j d hd => by obtain ⟨x, hx, hr⟩ := (h.each i e hi).2 j d hd; exact ⟨x, hx, hr.mono he⟩⟩⟩
theorem mul_idx {i k sz j : Nat} (hi : i < k) (hj : j < sz) : i * sz + j < k * sz := by
  have : (i + 1) * sz ≤ k * sz := Nat.mul_le_mul_right _ hi
  rw [Nat.add_mul, Nat.one_mul] at this
  omega
theorem Flat.append {cs cs' : List Value} {sz : Nat} {es es' : List V} (h : Flat m w cs sz es) (h' : Flat m w cs' sz es') : Flat m w (cs ++ cs') sz (es ++ es') := by
  refine ⟨by simp [h.len, h'.len, Nat.add_mul], fun i e hi => ?_⟩
  rcases Nat.lt_or_ge i es.length with hlt | hge
  · rw [List.getElem?_append_left hlt] at hi
    obtain ⟨h1, h2⟩ := h.each i e hi
    refine ⟨h1, fun j d hd => ?_⟩
    obtain ⟨x, hx, hr⟩ := h2 j d hd
    exact ⟨x, by rw [List.getElem?_append_left (lt_of_some hx)]; exact hx, hr⟩
  · rw [List.getElem?_append_right hge] at hi
    obtain ⟨h1, h2⟩ := h'.each _ e hi
    refine ⟨h1, fun j d hd => ?_⟩
    obtain ⟨x, hx, hr⟩ := h2 j d hd
    have e1 : (i - es.length) * sz + es.length * sz = i * sz := by rw [← Nat.add_mul]; congr 1; omega
    refine ⟨x, ?_, hr⟩
    rw [List.getElem?_append_right (by rw [h.len]; omega), h.len, ← hx]
    congr 1
    omega
theorem Flat.one {cs : List Value} {sz : Nat} {es : List V} (h : Flat m w cs sz es) (ho : (es.all fun u => u.cells.all V.cell) = true) : ∀ v ∈ cs, v.oneCell' = true := by
  intro v hv
  obtain ⟨q, hq⟩ := List.getElem?_of_mem hv
  have hlt := lt_of_some hq
  rw [h.len] at hlt
  have hsz : 0 < sz := by
    rcases Nat.eq_zero_or_pos sz with h0 | h0
    · subst h0; simp at hlt
    · exact h0
  have hi : q / sz < es.length := (Nat.div_lt_iff_lt_mul hsz).2 hlt
  have he : es[q / sz]? = some es[q / sz] := List.getElem?_eq_getElem hi
  obtain ⟨h1, h2⟩ := h.each _ _ he
  have hj : q % sz < (es[q / sz]).cells.length := by rw [h1]; exact Nat.mod_lt _ hsz
  obtain ⟨x, hx, hr⟩ := h2 (q % sz) _ (List.getElem?_eq_getElem hj)
  have hqq : q / sz * sz + q % sz = q := by rw [Nat.mul_comm]; exact Nat.div_add_mod q sz
  rw [hqq, hq] at hx
  cases hx
  refine cell_one hr ?_
  have := List.all_eq_true.1 ho _ (List.mem_of_getElem? he)
  exact List.all_eq_true.1 this _ (List.getElem_mem hj)

theorem Rd.of_flat {cs : List Value} {sz : Nat} {es : List V} (h : Flat m w cs sz es) {g cap : Nat} {cur : Array Value} {ty : TypeId} {fr : Nat × Nat} (hh : w.heap[g]? = some (.cells cur ty fr))
    (hp : ∀ (j : Nat) (x : Value), cs[j]? = some x → cur[j]? = some x) (hcap : es.length ≤ cap) (hm : ∀ fr, m g = some fr → es.length * sz ≤ fr) (tok : Option Nat) : Rd m w (.slice (some ⟨g, 0, none⟩) es.length cap) (.sl false sz es tok) := by
  refine .sl g 0 cap sz es tok (fun j => (cs[j]?).getD Go.undef) (heap_lt hh) hcap (fun i e hi => (h.each i e hi).1) (fun k hk => ?_) (fun fr hf => by have := hm fr hf; omega) (fun i e hi j d hd => ?_)
  · have hlt : k < cs.length := by rw [h.len]; exact hk
    have hx : cs[k]? = some cs[k] := List.getElem?_eq_getElem hlt
    rw [Nat.zero_add, Box.cell hh, hp _ _ hx, hx]
    rfl
  · obtain ⟨x, hx, hr⟩ := (h.each i e hi).2 j d hd
    rw [hx]
    exact hr

theorem Rd.flat {v : Value} {nl : Bool} {sz : Nat} {es : List V} {tok : Option Nat} (h : Rd m w v (.sl nl sz es tok)) :
    (nl = true ∧ v = .slice none 0 0 ∧ es = []) ∨ (nl = false ∧ es = [] ∧ tok = none ∧ ∃ a cap, v = .slice (some a) 0 cap) ∨ ∃ blk off cap cs, nl = false ∧ v = .slice (some ⟨blk, off, none⟩) es.length cap ∧ Flat m w cs sz es ∧ ∀ (j : Nat) (x : Value), cs[j]? = some x → w.cell? ⟨blk, off + j, none⟩ = some x := by
  cases h with
  | nil sz tok => exact .inl ⟨rfl, rfl, rfl⟩
  | emp a cap sz => exact .inr (.inl ⟨rfl, rfl, rfl, a, cap, rfl⟩)
  | sl blk off cap sz es tok c hb hcap hsz hc hm hr =>
    refine .inr (.inr ⟨blk, off, cap, (List.range (es.length * sz)).map c, rfl, rfl, ⟨by simp, fun i e hi => ⟨hsz i e hi, fun j d hd => ?_⟩⟩, fun j x hx => ?_⟩)
    · have hj := lt_of_some hd
      rw [hsz i e hi] at hj
      have := mul_idx (lt_of_some hi) hj
      exact ⟨c (i * sz + j), by rw [List.getElem?_map, List.getElem?_range this]; rfl, hr i e hi j d hd⟩
    · have hlt := lt_of_some hx
      simp at hlt
      rw [List.getElem?_map, List.getElem?_range hlt] at hx
      cases hx
      exact hc j hlt

theorem strip_eq {k i sz s : Nat} {t : Nat → V} {nl : Bool} {es : List V} (h : strip k t i = .sl nl sz es (some s)) : t i = .sl nl sz es (some s) ∧ s ≠ k := by
  unfold strip at h
  rw [stripV_eq] at h
  unfold strip0 at h
  split at h
  · rename_i nl' sz' es' s' ht
    split at h
    · cases h
    · rename_i hne; cases h; exact ⟨ht, hne⟩
  · rename_i hne
    exact absurd h (hne _ _ _ _)

theorem strip_row {k i s z l : Nat} {t : Nat → V} (h : strip k t i = .row s z l) : t i = .row s z l := by
  unfold strip at h
  rw [stripV_eq] at h
  unfold strip0 at h
  split at h
  · split at h <;> cases h
  · exact h
theorem strip_mp {k i s : Nat} {ks vs : List V} {t : Nat → V} (h : strip k t i = .mp s ks vs) : t i = .mp s ks vs := by
  unfold strip at h
  rw [stripV_eq] at h
  unfold strip0 at h
  split at h
  · split at h <;> cases h
  · exact h
theorem kill_is {k i : Nat} {t : Nat → V} {s : Nat} (h : (kill k t i).nm = some s) : kill k t i = t i ∧ s ≠ k := by
  unfold kill at h ⊢
  rcases killV_nm k (t i) with ⟨e, hn⟩ | ⟨e, hn⟩
  · refine ⟨e, fun e' => hn ?_⟩
    rw [← e, h, e']
  · rw [e] at h; cases h
theorem kill_sl {k i : Nat} {t : Nat → V} {nl : Bool} {sz : Nat} {es : List V} {s : Option Nat} (h : kill k t i = .sl nl sz es s) : t i = .sl nl sz es s := by
  unfold kill at h
  rcases killV_nm k (t i) with ⟨e, hn⟩ | ⟨e, hn⟩
  · rw [e] at h; exact h
  · rw [e] at h; cases h
theorem strip_strip (k : Nat) (t : Nat → V) : strip k (strip k t) = strip k t := by
  funext i
  simp only [strip, stripV_eq]
  generalize t i = v
  unfold strip0
  split
  · rename_i nl sz es s' hv
    split at hv
    · split at hv
      · cases hv
      · rename_i hne; cases hv; rw [if_neg hne]
    · rename_i hno; exact absurd hv (hno _ _ _ _)
  · rfl

theorem stripV_is {k : Nat} {u : V} {nl : Bool} {sz : Nat} {es : List V} {s : Nat} (h : stripV k u = .sl nl sz es (some s)) : u = .sl nl sz es (some s) ∧ s ≠ k := by
  rw [stripV_eq] at h
  unfold strip0 at h
  split at h
  · split at h
    · cases h
    · rename_i hne; cases h; exact ⟨rfl, hne⟩
  · rename_i hne
    exact absurd h (hne _ _ _ _)
theorem stripB_is {k s : Nat} {b : Nat → Option (List V)} {c' : List V} (h : stripB E k b s = some c') : ∃ c, b s = some c ∧ c.length = c'.length ∧ (c' = c ∨ E.MB s = true ∧ c' = c.map (stripV k)) := by
  unfold stripB at h
  split at h
  · rename_i hM
    obtain ⟨c, hc, rfl⟩ := Option.map_eq_some_iff.1 h
    exact ⟨c, hc, by simp, .inr ⟨hM, rfl⟩⟩
  · exact ⟨c', h, rfl, .inl rfl⟩
theorem stripB_of {k s : Nat} {b : Nat → Option (List V)} {c : List V} (h : b s = some c) : ∃ c', stripB E k b s = some c' ∧ c.length = c'.length := by
  unfold stripB
  split
  · exact ⟨c.map (stripV k), by rw [h]; rfl, by simp⟩
  · exact ⟨c, h, rfl⟩
theorem RdL.stripL {k : Nat} : ∀ {vs : List Value} {us : List V}, RdL m w vs us → RdL m w vs (us.map (stripV k))
  | [], [], _ => trivial
  | _ :: _, _ :: _, h => ⟨h.1.strip, RdL.stripL h.2⟩
theorem Bear.stripped {tm : Nat → Value} {k : Nat} {v : Value} {sz : Nat} {es : List V} {s : Nat} (h : Bear E w β ⟨strip k st.t, stripB E k st.b⟩ tm v (.sl false sz es (some s))) :
    Bear E w β st tm v (.sl false sz es (some s)) ∧ s ≠ k := by
  rcases h with ⟨i, h1, h2⟩ | ⟨k', c', j, h1, h2, h3, h4⟩
  · obtain ⟨h3, h4⟩ := strip_eq h1
    exact ⟨.inl ⟨i, h3, h2⟩, h4⟩
  · have h2 : stripB E k st.b k' = some c' := h2
    simp only [stripB, h1, if_true] at h2
    obtain ⟨c, hc, rfl⟩ := Option.map_eq_some_iff.1 h2
    rw [List.getElem?_map] at h3
    obtain ⟨u0, hu0, he⟩ := Option.map_eq_some_iff.1 h3
    obtain ⟨rfl, hne⟩ := stripV_is he
    exact ⟨.inr ⟨k', c, j, h1, hc, hu0, h4⟩, hne⟩
theorem stripB_strip (E : Env) (k : Nat) (b : Nat → Option (List V)) : stripB E k (stripB E k b) = stripB E k b := by
  funext s
  unfold stripB
  split
  · rename_i hM
    cases b s with
    | none => rfl
    | some c =>
      simp only [Option.map_some, List.map_map]
      congr 1
      refine List.map_congr_left (fun u _ => ?_)
      have := congrFun (strip_strip k (fun _ => u)) 0
      exact this
  · rfl
theorem Rel.stripped (h : Rel E n pm m0 w0 m β st a w) (k : Nat) : Rel E n pm m0 w0 m β ⟨Go.Proofs.Ytkacldoiimlmcaa.strip k st.t, stripB E k st.b⟩ a w := by
  refine ⟨fun i => (h.tmps i).strip, h.size, fun s c' hs => ?_, fun s s' c c' h1 h2 he => ?_, h.below, h.par, h.mold, ?_, fun i s sz len c' hi hs => ?_, h.defers, h.glob, h.j, h.maps.to (fun i s ks vs hi => ⟨⟨i, strip_mp hi⟩, rfl⟩) (Ext.refl _ _) (fun _ _ _ h _ => ⟨h, rfl⟩)⟩
  · obtain ⟨c, hc, hl, hor⟩ := stripB_is hs
    obtain ⟨⟨hlim, vals, ty, xs, rest, hh, hx, hr⟩, hge⟩ := h.boxes s c hc
    refine ⟨⟨hlim, vals, ty, xs, rest, hh, hx, ?_⟩, hge⟩
    rcases hor with rfl | ⟨_, rfl⟩
    · exact hr
    · exact hr.stripL
  · obtain ⟨_, hc, _⟩ := stripB_is h1
    obtain ⟨_, hc', _⟩ := stripB_is h2
    exact h.inj _ _ _ _ hc hc' he
  · obtain ⟨ρ, hr⟩ := h.rows
    refine ⟨ρ, hr.to (fun v sz es s hi => hi.stripped.1) (fun _ _ _ _ _ => ⟨rfl, rfl⟩) (fun v sz es s k' c hi hk => ?_)⟩
    obtain ⟨_, hc, _⟩ := stripB_is hk
    exact hr.box _ _ _ _ _ _ hi hc
  · obtain ⟨c, hc, hl, _⟩ := stripB_is hs
    obtain ⟨hf, rest⟩ := h.own i s sz len c (strip_row hi) hc
    exact ⟨by omega, rest⟩
theorem Rel.grown (h : Rel E n pm m0 w0 m β st a w) {ρ : Nat → Nat} (hrw : Rows E m pm w0 w β st (fun i => a.tmps.getD i Go.undef) ρ) {d k g' sz : Nat} (hd : d < n) {v' : Value} {es' : List V} {m' : Lim} {w' : World} (he : Ext m w m' w')
    (hbel : Bel pm.X w0 w') (hother : ∀ g, g < w.heap.size → g ≠ g' → w'.heap[g]? = w.heap[g]? ∧ m' g = m g) (hrow : RowAt m' pm w0 w' v' g' sz es'.length) (hrd : Rd m' w' v' (.sl false sz es' (some d)))
    (hfree : ∀ v sz es s, Bear E w β ⟨strip k (strip d st.t), stripB E k (stripB E d st.b)⟩ (fun i => a.tmps.getD i Go.undef) v (.sl false sz es (some s)) → ρ s ≠ g') (hbox : ∀ s cs, st.b s = some cs → β s ≠ g') (hnm : ∀ e c, w.heap[g']? ≠ some (.map e c)) :
    Rel E n pm m0 w0 m' β ⟨upd (strip k (strip d st.t)) d (.sl false sz es' (some d)), stripB E k (stripB E d st.b)⟩ (a.put (some d) v') w' := by
  have hlt : d < a.tmps.size := by rw [h.size]; exact hd
  have hS := (h.stripped d).stripped k
  have hSb : ∀ {s : Nat} {c' : List V}, stripB E k (stripB E d st.b) s = some c' → ∃ c, st.b s = some c ∧ c.length = c'.length := fun hs => by
    obtain ⟨c1, h1, l1, _⟩ := stripB_is hs
    obtain ⟨c, h2, l2, _⟩ := stripB_is h1
    exact ⟨c, h2, l2.trans l1⟩
  have hst : ∀ {v : Value} {sz0 : Nat} {es0 : List V} {s : Nat}, Bear E w β ⟨strip k (strip d st.t), stripB E k (stripB E d st.b)⟩ (fun i => a.tmps.getD i Go.undef) v (.sl false sz0 es0 (some s)) → Bear E w β st (fun i => a.tmps.getD i Go.undef) v (.sl false sz0 es0 (some s)) ∧ s ≠ d := fun hi => by
    obtain ⟨h1, _⟩ := hi.stripped (st := ⟨strip d st.t, stripB E d st.b⟩)
    exact h1.stripped
  have key : ∀ {v : Value} {sz0 : Nat} {es0 : List V} {s : Nat}, Bear E w' β ⟨upd (strip k (strip d st.t)) d (.sl false sz es' (some d)), stripB E k (stripB E d st.b)⟩ (fun i => (a.put (some d) v').tmps.getD i Go.undef) v (.sl false sz0 es0 (some s)) →
      (s = d ∧ v = v' ∧ sz0 = sz ∧ es0 = es') ∨ Bear E w β ⟨strip k (strip d st.t), stripB E k (stripB E d st.b)⟩ (fun i => a.tmps.getD i Go.undef) v (.sl false sz0 es0 (some s)) := fun {v sz0 es0 s} hi => by
    rcases hi with ⟨i, h1, h2⟩ | ⟨k', c', j, h1, h2, h3, h4⟩
    · simp only [upd_at] at h1
      simp only [Act.put, getD_set _ _ _ _ hlt] at h2
      split at h1
      · rename_i e
        rw [if_pos e] at h2
        cases h1
        exact .inl ⟨rfl, h2.symm, rfl, rfl⟩
      · rename_i e
        rw [if_neg e] at h2
        exact .inr (.inl ⟨i, h1, h2⟩)
    · obtain ⟨c, hc, _⟩ := hSb h2
      obtain ⟨⟨_, vals, ty, xs, rest, hh, _, _⟩, _⟩ := h.boxes _ _ hc
      rw [cell_block (hother _ (heap_lt hh) (hbox _ _ hc)).1] at h4
      exact .inr (.inr ⟨k', c', j, h1, h2, h3, h4⟩)
  refine ⟨fun i => ?_, by simp [Act.put, h.size], fun s cs hs => ?_, hS.inj, hbel, h.par, ⟨fun blk hb hy => ?_, h.mold.2.1.trans he, h.mold.2.2⟩, ⟨upd ρ d g', fun v sz0 es0 s hi => ?_, fun v sz0 es0 s v1 sz1 es1 s' hi hi' hr => ?_, fun v sz0 es0 s k' cs hi hk' => ?_⟩, hS.own.sub (fun i s sz0 len cs hi hs => ?_), h.defers, fun g => (h.glob g).mono he, h.j, h.maps.to (fun i s ks vs hi => (by
    simp only [upd_at] at hi
    split at hi
    · cases hi
    · exact ⟨⟨i, strip_mp (strip_mp hi)⟩, rfl⟩)) he (fun g e c hg _ => ⟨by rw [(hother g (heap_lt hg) (fun e' => hnm e c (e' ▸ hg))).1]; exact hg, (hother g (heap_lt hg) (fun e' => hnm e c (e' ▸ hg))).2⟩)⟩
  rotate_right
  · simp only [upd_at] at hi
    simp only [Act.put, getD_set _ _ _ _ hlt]
    split at hi
    · cases hi
    · rename_i e
      obtain ⟨c, hc, _⟩ := hSb hs
      refine ⟨i, cs, hi, by rw [if_neg e], hs, Nat.le_refl _, trivial, fun cur ty hh => ⟨cur, ty, ?_, rfl⟩⟩
      rw [(hother _ (heap_lt hh) (hbox s c hc)).1]
      exact hh
  · simp only [Act.put, getD_set _ _ _ _ hlt, upd_at]
    split
    · exact .of hrd
    · exact ((h.tmps i).mono he).strip.strip
  · obtain ⟨c, hc, _⟩ := hSb hs
    obtain ⟨⟨hl, vals, ty, xs, rest, hh, hx, hr⟩, hge⟩ := hS.boxes s cs hs
    obtain ⟨h1, h2⟩ := hother _ (heap_lt hh) (hbox s c hc)
    exact ⟨⟨by rw [h2]; exact hl, vals, ty, xs, rest, by rw [h1]; exact hh, hx, hr.mono he⟩, hge⟩
  · have hlo := hrow.lo
    rw [(hother blk (Nat.lt_of_lt_of_le hb h.below.size) (fun e => by rcases hlo with hlo | hlo; omega; exact hy (e ▸ hlo))).2]
    exact h.mold.1 blk hb hy
  · rcases key hi with ⟨rfl, rfl, rfl, rfl⟩ | hi
    · rw [upd_same]
      exact hrow
    · obtain ⟨h1, h2⟩ := hst hi
      rw [upd_ne _ _ h2]
      obtain ⟨lo, lim, cap, cur, ty, hv, hh, hc, hs⟩ := hrw.row v sz0 es0 s h1
      obtain ⟨h3, h4⟩ := hother _ (heap_lt hh) (hfree _ _ _ _ hi)
      exact ⟨lo, by rw [h4]; exact lim, cap, cur, ty, hv, by rw [h3]; exact hh, hc, hs⟩
  · have k1 := key hi
    have k2 := key hi'
    clear hi hi'
    rcases k1 with ⟨e1, _⟩ | k1
    · rcases k2 with ⟨e2, _⟩ | k2
      · rw [e1, e2]
      · obtain ⟨h1, h2⟩ := hst k2
        rw [e1, upd_same, upd_ne _ _ h2] at hr
        exact absurd hr.symm (hfree _ _ _ _ k2)
    · rcases k2 with ⟨e2, _⟩ | k2
      · obtain ⟨h1, h2⟩ := hst k1
        rw [e2, upd_same, upd_ne _ _ h2] at hr
        exact absurd hr (hfree _ _ _ _ k1)
      · rw [upd_ne _ _ (hst k1).2, upd_ne _ _ (hst k2).2] at hr
        exact hrw.sep _ _ _ _ _ _ _ _ (hst k1).1 (hst k2).1 hr
  · obtain ⟨c, hc, _⟩ := hSb hk'
    rcases key hi with ⟨rfl, rfl, rfl, rfl⟩ | hi
    · rw [upd_same]
      exact hbox _ _ hc
    · rw [upd_ne _ _ (hst hi).2]
      exact hrw.box _ _ _ _ _ _ (hst hi).1 hc

/-- A row of the call's own that may be written grows: its variable is the new slot's. -/
theorem Rel.regrow (h : Rel E n pm m0 w0 m β st a w) {ρ : Nat → Nat} (hrw : Rows E m pm w0 w β st (fun i => a.tmps.getD i Go.undef) ρ) {d s : Nat} (hd : d < n) (hmb : E.MB d = false) {cs : List V} (_hcs : st.b s = some cs) {g' len sz cap : Nat} {cur' : Array Value} {ty' : TyAt cur'.size} {xs' rest' : List Value} {cs' : List V} {m' : Lim} {w' : World}
    (he : Ext m w m' w') (hbel : Bel pm.X w0 w') (hother : ∀ g, g < w.heap.size → g ≠ g' → w'.heap[g]? = w.heap[g]? ∧ m' g = m g) (hlo : w0.heap.size ≤ g' ∨ g' ∈ pm.X ∧ m g' = some 0) (hlim : m' g' = some 0)
    (hh' : w'.heap[g']? = some (.cells cur' ty'.ty ty'.fz)) (hx : cur'.toList = xs' ++ rest') (hr : RdL m' w' xs' cs') (hl : len * sz ≤ cs'.length) (hcap : len ≤ cap) (hsz : cur'.size = cap * sz)
    (hfree : ∀ v sz es s', Bear E w β st (fun i => a.tmps.getD i Go.undef) v (.sl false sz es (some s')) → ρ s' ≠ g') (hbox : ∀ s' c', st.b s' = some c' → s' ≠ s → β s' ≠ g') (hnm : ∀ e c, w.heap[g']? ≠ some (.map e c)) :
    Rel E n pm m0 w0 m' (upd β d g') ⟨upd (kill s (kill d st.t)) d (.row d sz len), upd (upd st.b s none) d (some cs')⟩ (a.put (some d) (.slice (some ⟨g', 0, none⟩) len cap)) w' := by
  have hlt : d < a.tmps.size := by rw [h.size]; exact hd
  have hnm0 : ∀ {i s' : Nat}, (kill s (kill d st.t) i).nm = some s' → kill s (kill d st.t) i = st.t i ∧ s' ≠ s ∧ s' ≠ d := fun {i s'} hi => by
    obtain ⟨h1, h2⟩ := kill_is hi
    rw [h1] at hi
    obtain ⟨h3, h4⟩ := kill_is hi
    exact ⟨h1.trans h3, h2, h4⟩
  have hb' : ∀ {s' : Nat} {c' : List V}, upd (upd st.b s none) d (some cs') s' = some c' → s' ≠ d → st.b s' = some c' ∧ s' ≠ s := fun {s' c'} hs hne => by
    rw [upd_ne _ _ hne, upd_at] at hs
    split at hs
    · cases hs
    · rename_i e; exact ⟨hs, e⟩
  refine ⟨fun i => ?_, by simp [Act.put, h.size], fun s' c' hs' => ?_, fun s1 s2 c1 c2 h1 h2 heq => ?_, hbel, ⟨h.par.1, fun s' hs' => (upd_ne _ _ (by have := h.par.1; omega)).trans (h.par.2.1 s' hs'), h.par.2.2⟩, ⟨fun blk hb hy => ?_, h.mold.2.1.trans he, h.mold.2.2⟩, ⟨ρ, hrw.to (fun v sz0 es0 s' hi => hi.from (fun i hi => ?_) (fun k' c' j h1 h2 h3 h4 => ?_)) (fun v sz0 es0 s' hi => ?_) (fun v sz0 es0 s' k' c' hi hk' => ?_)⟩, fun i s' sz0 len0 c' hi hs' => ?_, h.defers, fun g => (h.glob g).mono he, h.j, h.maps.to (fun i s' ks vs hi => (by
    simp only [upd_at (kill s (kill d st.t))] at hi
    split at hi
    · cases hi
    · obtain ⟨h1, h2, h3⟩ := hnm0 (show (kill s (kill d st.t) i).nm = some s' by rw [hi]; rfl)
      exact ⟨⟨i, h1 ▸ hi⟩, upd_ne _ _ h3⟩)) he (fun g e c hg _ => ⟨by rw [(hother g (heap_lt hg) (fun e' => hnm e c (e' ▸ hg))).1]; exact hg, (hother g (heap_lt hg) (fun e' => hnm e c (e' ▸ hg))).2⟩)⟩
  · simp only [Act.put, getD_set _ _ _ _ hlt, upd_at (kill s (kill d st.t))]
    split
    · have := Rs.ofRow (m := m') (w := w') (β := upd β d g') d sz hcap
      rwa [upd_same] at this
    · exact (((h.tmps i).mono he).kill.kill).beta (fun s' hs' => upd_ne _ _ (hnm0 hs').2.2)
  · by_cases hne : s' = d
    · subst hne
      have hs' : upd (upd st.b s none) s' (some cs') s' = some c' := hs'
      rw [upd_same] at hs'
      cases hs'
      rw [upd_same]
      exact ⟨⟨hlim, cur', ty', xs', rest', hh', hx, hr⟩, hlo.imp id And.left⟩
    · obtain ⟨h1, h2⟩ := hb' hs' hne
      rw [upd_ne _ _ hne]
      obtain ⟨⟨hl', vals, ty, xs, rest, hh, hx', hr'⟩, hge⟩ := h.boxes s' c' h1
      obtain ⟨h3, h4⟩ := hother _ (heap_lt hh) (hbox s' c' h1 h2)
      exact ⟨⟨by rw [h4]; exact hl', vals, ty, xs, rest, by rw [h3]; exact hh, hx', hr'.mono he⟩, hge⟩
  · by_cases e1 : s1 = d <;> by_cases e2 : s2 = d
    · rw [e1, e2]
    · obtain ⟨h3, h4⟩ := hb' h2 e2
      rw [e1, upd_same, upd_ne _ _ e2] at heq
      exact absurd heq.symm (hbox _ _ h3 h4)
    · obtain ⟨h3, h4⟩ := hb' h1 e1
      rw [e2, upd_same, upd_ne _ _ e1] at heq
      exact absurd heq (hbox _ _ h3 h4)
    · rw [upd_ne _ _ e1, upd_ne _ _ e2] at heq
      exact h.inj _ _ _ _ (hb' h1 e1).1 (hb' h2 e2).1 heq
  · by_cases hbg : blk = g'
    · rcases hlo with hlo | ⟨_, hm0⟩
      · omega
      · rw [hbg, hlim, ← hm0, ← hbg]
        exact h.mold.1 blk hb hy
    · rw [(hother blk (Nat.lt_of_lt_of_le hb h.below.size) hbg).2]
      exact h.mold.1 blk hb hy
  · simp only [upd_at] at hi
    simp only [Act.put, getD_set _ _ _ _ hlt]
    split at hi
    · cases hi
    · rename_i e
      rw [if_neg e]
      exact .inl ⟨i, kill_sl (kill_sl hi), rfl⟩
  · have hne : k' ≠ d := fun e => by rw [e, hmb] at h1; cases h1
    obtain ⟨h5, h6⟩ := hb' h2 hne
    rw [upd_ne _ _ hne] at h4
    obtain ⟨⟨_, vals, ty, xs, rest, hh, _, _⟩, _⟩ := h.boxes _ _ h5
    rw [cell_block (hother _ (heap_lt hh) (hbox _ _ h5 h6)).1] at h4
    exact .inr ⟨k', c', j, h1, h5, h3, h4⟩
  · obtain ⟨lo, lim, cap, cur, ty, hv, hh, hc, hs⟩ := hrw.row v sz0 es0 s' hi
    exact hother _ (heap_lt hh) (hfree _ _ _ _ hi)
  · by_cases e : k' = d
    · rw [e, upd_same]; exact (hfree _ _ _ _ hi).symm
    · rw [upd_ne _ _ e]
      exact hrw.box _ _ _ _ _ _ hi (hb' hk' e).1
  · simp only [upd_at (kill s (kill d st.t))] at hi
    simp only [Act.put, getD_set _ _ _ _ hlt]
    split at hi
    · rename_i e
      cases hi
      have hs' : upd (upd st.b s none) d (some cs') d = some c' := hs'
      rw [upd_same] at hs'
      cases hs'
      rw [if_pos e]
      exact ⟨hl, cap, cur', ty', by rw [upd_same], by rw [upd_same]; exact hh', hsz⟩
    · rename_i e
      rw [if_neg e]
      obtain ⟨h1, h2, h3⟩ := hnm0 (show (kill s (kill d st.t) i).nm = some s' by rw [hi]; rfl)
      obtain ⟨h4, _⟩ := hb' hs' h3
      obtain ⟨hl', cap1, cur, ty, hv, hh, hsz'⟩ := h.own i s' sz0 len0 c' (h1 ▸ hi) h4
      refine ⟨hl', cap1, cur, ty, by rw [upd_ne _ _ h3]; exact hv, ?_, hsz'⟩
      rw [upd_ne _ _ h3, (hother _ (heap_lt hh) (hbox _ _ h4 h2)).1]
      exact hh

theorem Ext.fresh (m : Lim) (w : World) (o : Obj) (x : Option Nat) : Ext m w (upd m w.heap.size x) (w.drew.alloc o) := by
  refine ⟨by simp, fun blk off v hb _ hc => ?_, fun blk hb fr hf => ?_, fun blk es c _ hc => by rw [Below.heap_alloc w.drew _ blk (map_lt hc)]; exact hc⟩
  · have := World.cell?_alloc_lt w.drew o ⟨blk, off, none⟩ hb
    rw [this]; exact hc
  · simp only [upd] at hf; rw [if_neg (Nat.ne_of_lt hb)] at hf; exact ⟨fr, hf, Nat.le_refl _⟩
theorem Ext.fresh0 (m : Lim) (w : World) (o : Obj) (x : Option Nat) : Ext m w (upd m w.heap.size x) (w.alloc o) := by
  refine ⟨by simp, fun blk off v hb _ hc => ?_, fun blk hb fr hf => ?_, fun blk es c _ hc => by rw [Below.heap_alloc w _ blk (map_lt hc)]; exact hc⟩
  · rw [World.cell?_alloc_lt _ _ _ hb]; exact hc
  · simp only [upd] at hf; rw [if_neg (Nat.ne_of_lt hb)] at hf; exact ⟨fr, hf, Nat.le_refl _⟩

theorem run_room {P : Program} (w : World) (t ty el : TypeId) (i : TypeInfo) (ht : P.underlying t = some (.slice el)) (hi : P.info? el = some i) (g sLen sCap : Nat) (cur : Array Value) (ty' : TyAt cur.size)
    (hg : w.heap[g]? = some (.cells cur ty'.ty ty'.fz)) (x : Value) (k : Nat) (news : List Value) (hx : (Builtin.lenOf x).run P w = .ok k w) (hf : (Builtin.firstCells i.size k x).run P w = .ok news.toArray w)
    (h1 : ∀ u ∈ news, u.oneCell' = true) (hroom : sLen + k ≤ sCap) (hfit : sLen * i.size + news.length ≤ cur.size) :
    (Builtin.append_ #[t, t] ty #[.slice (some ⟨g, 0, none⟩) sLen sCap, x]).run P w = .ok (.slice (some ⟨g, 0, none⟩) (sLen + k) sCap) (w.setRow g (cur.toList.take (sLen * i.size) ++ news ++ cur.toList.drop (sLen * i.size + news.length)).toArray) := by
  have hst := run_storeAny P g (sLen * i.size) ty'.ty ty'.fz news 0 cur w hg ty'.ok (by omega) h1
  simp only [Nat.add_zero] at hst
  have hsz : szB P el = some i.size := by simp [szB, hi]
  simp [Builtin.append_, run_und ht, run_szB hsz, hx, hroom, hf, Addr_add_eq, hst]

theorem info_of {P : Program} {t : TypeId} {n : Nat} (h : szB P t = some n) : ∃ i, P.info? t = some i ∧ i.size = n := by
  unfold szB at h
  cases hi : P.info? t with
  | none => simp [hi] at h
  | some i => simp [hi] at h; exact ⟨i, rfl, h⟩

theorem zero_of {P : Program} {t : TypeId} {i : TypeInfo} {z : List V} (hi : P.info? t = some i) (h : zeroB P t = some z) : ∃ v : Value, i.zero = some v ∧ v.cells.size = z.length := by
  unfold zeroB at h
  simp only [hi, Option.bind_some, Option.map_eq_some_iff] at h
  obtain ⟨v, hv, rfl⟩ := h
  exact ⟨v, hv, by simp⟩

theorem src_of {P : Program} {y : Value} {nl : Bool} {sz sz0 : Nat} {es : List V} {tok : Option Nat} (h : Rd m w y (.sl nl sz0 es tok)) (hs : sz0 = sz ∨ es = []) :
    ∃ cs, Flat m w cs sz es ∧ (Builtin.lenOf y).run P w = .ok es.length w ∧ (Builtin.firstCells sz es.length y).run P w = .ok cs.toArray w ∧
      (es ≠ [] → ∃ blk off cap, y = .slice (some ⟨blk, off, none⟩) es.length cap ∧ ∀ (j : Nat) (x : Value), cs[j]? = some x → w.cell? ((⟨blk, off, none⟩ : Addr).add j) = some x) := by
  rcases h.flat with ⟨_, rfl, rfl⟩ | ⟨_, rfl, _, a, cap, rfl⟩ | ⟨blk, off, cap, cs, _, rfl, hf, hc⟩
  · exact ⟨[], Flat.nil sz, rfl, by simpa using run_firstCells_none (P := P) w sz 0 0 0, fun h => absurd rfl h⟩
  · exact ⟨[], Flat.nil sz, rfl, run_firstCells_some w sz 0 _ _ _ [] (by simp) (by simp), fun h => absurd rfl h⟩
  · by_cases he : es = []
    · subst he
      exact ⟨[], Flat.nil sz, rfl, run_firstCells_some w sz 0 _ _ _ [] (by simp) (by simp), fun h => absurd rfl h⟩
    · obtain rfl := hs.resolve_right he
      have hc' : ∀ (j : Nat) (x : Value), cs[j]? = some x → w.cell? ((⟨blk, off, none⟩ : Addr).add j) = some x := fun j x hx => by rw [Addr_add_eq]; exact hc j x hx
      exact ⟨cs, hf, rfl, run_firstCells_some w _ _ _ _ _ cs hf.len hc', fun _ => ⟨blk, off, cap, rfl, hc'⟩⟩

/-- What is appended: a row's elements, or a text's bytes. -/
structure SrcOf (P : Program) (m : Lim) (w : World) (t t' el : TypeId) (i : TypeInfo) (y : Value) (es : List V) (cs : List Value) : Prop where
  flat : Flat m w cs i.size es
  nilE : es = [] → ∀ ty, (Builtin.append_ #[t, t'] ty #[.slice none 0 0, y]).run P w = .ok (.slice none 0 0) w
  nil : es ≠ [] → ∀ ty zv, i.zero = some zv → 0 < es.length → (es.length : Int) ≤ 9223372036854775807 → es.length * i.bytes ≤ 281474976710656 →
    (Builtin.append_ #[t, t'] ty #[.slice none 0 0, y]).run P w = .ok (.slice (some ⟨w.heap.size, 0, none⟩) es.length (grownCap w es.length 0 el)) (w.drew.alloc (.cells (cs.toArray ++ Builtin.zeroCells zv.cells (grownCap w es.length 0 el - es.length)) el))
  room : ∀ ty g sLen sCap (cur : Array Value) (ty' : TyAt cur.size), w.heap[g]? = some (.cells cur ty'.ty ty'.fz) → (∀ u ∈ cs, u.oneCell' = true) → sLen + es.length ≤ sCap → sLen * i.size + cs.length ≤ cur.size →
    (Builtin.append_ #[t, t'] ty #[.slice (some ⟨g, 0, none⟩) sLen sCap, y]).run P w = .ok (.slice (some ⟨g, 0, none⟩) (sLen + es.length) sCap) (w.setRow g (cur.toList.take (sLen * i.size) ++ cs ++ cur.toList.drop (sLen * i.size + cs.length)).toArray)
  grow : es ≠ [] → ∀ ty zv (b : Addr) sLen sCap (olds : List Value), i.zero = some zv → olds.length = sLen * i.size → (∀ j v, olds[j]? = some v → w.cell? (b.add j) = some v) → sCap < sLen + es.length → ((sLen + es.length : Nat) : Int) ≤ 9223372036854775807 → Builtin.nextslicecap (sLen + es.length) sCap * i.bytes ≤ 281474976710656 →
    (Builtin.append_ #[t, t'] ty #[.slice (some b) sLen sCap, y]).run P w = .ok (.slice (some ⟨w.heap.size, 0, none⟩) (sLen + es.length) (grownCap w (sLen + es.length) sCap el)) (w.drew.alloc (.cells (olds.toArray ++ cs.toArray ++ Builtin.zeroCells zv.cells (grownCap w (sLen + es.length) sCap el - (sLen + es.length))) el))
theorem src_sl {P : Program} {t el : TypeId} {i : TypeInfo} (hu : P.underlying t = some (.slice el)) (hi : P.info? el = some i) {y : Value} {nl : Bool} {sz0 : Nat} {es : List V} {tok : Option Nat} (h : Rd m w y (.sl nl sz0 es tok)) (hs : sz0 = i.size ∨ es = []) :
    ∃ cs, SrcOf P m w t t el i y es cs := by
  obtain ⟨cs, hflat, hlen, hfc, hsrc⟩ := src_of (P := P) h hs
  have hsz : szB P el = some i.size := by simp [szB, hi]
  refine ⟨cs, hflat, fun he ty => ?_, fun he ty zv hzv h1 h2 h3 => ?_, fun ty g sLen sCap cur ty' hh h1 h2 h3 => run_room (P := P) w t ty el i hu hi g sLen sCap cur ty' hh _ es.length cs hlen hfc h1 h2 h3, fun he ty zv b sLen sCap olds hzv h1 h2 h3 h4 h5 => ?_⟩
  · subst he
    have hcs : cs = [] := by have := hflat.len; simpa using this
    subst hcs
    simp at hlen hfc
    simp [Builtin.append_, run_und hu, run_szB hsz, hlen, hfc]
  · obtain ⟨blk, off, cap, hyv, hcell⟩ := hsrc he
    rw [hyv]
    exact run_append_nil (P := P) w t ty el i zv hu hi hzv _ es.length cap cs hflat.len hcell h1 h2 h3
  · obtain ⟨blk, off, cap, hyv, hcell⟩ := hsrc he
    rw [hyv]
    exact run_append_grow (P := P) w t ty el i zv hu hi hzv b sLen sCap olds h1 h2 _ es.length cap cs hflat.len hcell h3 h4 h5
theorem bytesV_get (s : ByteArray) (j : Nat) : (Go.Lib.strCells s)[j]? = (s.data.toList[j]?).map fun b => Value.int .u8 b.toNat := by
  unfold Go.Lib.strCells
  rw [List.getElem?_map]
theorem bytesV_flat {s : ByteArray} {sz : Nat} (hs : 1 = sz ∨ bytesV s = []) : Flat m w (Go.Lib.strCells s) sz (bytesV s) := by
  rcases hs with rfl | hs
  · refine ⟨by simp [Go.Lib.strCells, bytesV], fun i e hi => ?_⟩
    simp only [bytesV, List.getElem?_map, Option.map_eq_some_iff] at hi
    obtain ⟨b, hb, rfl⟩ := hi
    refine ⟨rfl, fun j d hd => ?_⟩
    cases j with
    | zero => cases hd; exact ⟨.int .u8 b.toNat, by rw [Nat.mul_one, Nat.add_zero, bytesV_get, hb]; rfl, .x _⟩
    | succ j => cases hd
  · rw [hs]
    have : Go.Lib.strCells s = [] := by
      unfold bytesV at hs
      rw [List.map_eq_nil_iff] at hs
      unfold Go.Lib.strCells
      rw [hs]
      rfl
    rw [this]
    exact Flat.nil _
theorem bytesV_len (s : ByteArray) : (bytesV s).length = s.size := by
  unfold bytesV
  rw [List.length_map, Array.length_toList]
  rfl
theorem src_str {P : Program} {t t' el : TypeId} {i : TypeInfo} (hu : P.underlying t = some (.slice el)) (hu' : P.underlying t' = some .string) (hi : P.info? el = some i) {s : ByteArray} (hs : 1 = i.size ∨ bytesV s = []) :
    ∃ cs, SrcOf P m w t t' el i (.string s) (bytesV s) cs := by
  have hflat := bytesV_flat (m := m) (w := w) hs
  have hsz : szB P el = some i.size := by simp [szB, hi]
  have hlen := bytesV_len s
  have hfc := Go.Lib.run_firstCells_string (P := P) w i.size s
  refine ⟨Go.Lib.strCells s, hflat, fun he ty => ?_, fun he ty zv hzv h1 h2 h3 => ?_, fun ty g sLen sCap cur ty' hh h1 h2 h3 => ?_, fun he ty zv b sLen sCap olds hzv h1 h2 h3 h4 h5 => ?_⟩
  · have h0 : s.size = 0 := by rw [← hlen, he]; rfl
    rw [h0] at hfc
    simp [Builtin.append_, run_und hu, run_und hu', run_szB hsz, Builtin.lenOf, h0, hfc]
  · rw [hlen] at h1 h2 h3 ⊢
    have hr := run_append_nil_string (P := P) w t t' ty el i zv hu hu' hi hzv s h1 h2 h3
    have e1 : (s.data.map fun b => Value.int .u8 b.toNat) = (Go.Lib.strCells s).toArray := by
      apply Array.ext'
      simp [Go.Lib.strCells]
    rw [e1] at hr
    exact hr
  · rw [hlen] at h2 ⊢
    have hst := run_storeAny P g (sLen * i.size) ty'.ty ty'.fz (Go.Lib.strCells s) 0 cur w hh ty'.ok (by omega) h1
    simp only [Nat.add_zero] at hst
    simp [Builtin.append_, run_und hu, run_und hu', run_szB hsz, Builtin.lenOf, h2, hfc, Addr_add_eq, hst]
  · rw [hlen] at h3 h4 h5 ⊢
    exact Go.Lib.run_append_grow_string (P := P) w t t' ty el i zv hu hu' hi hzv b sLen sCap olds h1 h2 s h3 h4 h5

theorem ev_tok {sx : Operand} {nl : Bool} {sz k : Nat} {es : List V} (h : ev E st sx = .sl nl sz es (some k)) : ∃ i, sx = .tmp i ∧ st.t i = .sl nl sz es (some k) := by
  cases sx with
  | tmp i => exact ⟨i, rfl, h⟩
  | const v => simp only [ev, ofVal] at h; split at h <;> cases h
  | global g => simp only [ev, bare_eq] at h; generalize E.G g = u at h; cases u <;> cases h
  | func f => cases h

theorem ev_row (h : Rel E n pm m0 w0 m β st a w) {sx : Operand} {s sz len : Nat} (he : ev E st sx = .row s sz len) : ∃ i, sx = .tmp i ∧ st.t i = .row s sz len := by
  cases sx with
  | tmp i => exact ⟨i, rfl, he⟩
  | const v => simp only [ev, ofVal] at he; split at he <;> cases he
  | global g => simp only [ev, bare_eq] at he; have := h.glob g; generalize E.G g = u at he this; cases u <;> first | exact this.not_row.elim | cases he
  | func f => cases he
theorem ev_mp (h : Rel E n pm m0 w0 m β st a w) {sx : Operand} {s : Nat} {ks vs : List V} (he : ev E st sx = .mp s ks vs) : ∃ i, sx = .tmp i ∧ st.t i = .mp s ks vs := by
  cases sx with
  | tmp i => exact ⟨i, rfl, he⟩
  | const v => simp only [ev, ofVal] at he; split at he <;> cases he
  | global g => simp only [ev, bare_eq] at he; have := h.glob g; generalize E.G g = u at he this; cases u <;> first | exact this.not_mp.elim | cases he
  | func f => cases he
theorem ev_map (h : Rel E n pm m0 w0 m β st a w) {sx : Operand} {s : Nat} {ks vs : List V} (he : ev E st sx = .mp s ks vs) : MapAt m w (β s) ks vs := by
  obtain ⟨i, _, hi⟩ := ev_mp h he
  exact (h.maps.holds i s ks vs hi).1
theorem mapwV_is (s : Nat) (ks vs : List V) (u : V) : mapwV s ks vs u = u ∨ (∃ ks' vs', u = .mp s ks' vs') ∧ mapwV s ks vs u = .mp s ks vs := by
  rw [mapwV_eq]
  cases u <;> try exact .inl rfl
  rename_i s' ks' vs'
  simp only [mapw0]
  by_cases e : s' = s
  · subst e
    rw [if_pos rfl]
    exact .inr ⟨⟨_, _, rfl⟩, rfl⟩
  · rw [if_neg e]
    exact .inl rfl
/-- A new map of the call's own. -/
theorem Rel.newMap (h : Rel E n pm m0 w0 m β st a w) {s : Nat} (hs : s < n) (hn : noPtrTo s st.t) :
    Rel E n pm m0 w0 (upd m w.heap.size (some 0)) (upd β s w.heap.size) ⟨upd st.t s (.mp s [] []), upd st.b s none⟩ (a.put (some s) (.map (some w.heap.size))) (w.alloc (.map #[] 0)) := by
  have he : Ext m w (upd m w.heap.size (some 0)) (w.alloc (.map #[] 0)) := Ext.fresh0 m w _ _
  have hml : ∀ k o, w.heap[k]? = some o → upd m w.heap.size (some 0) k = m k := fun k o hk => upd_ne _ _ (Nat.ne_of_lt (heap_lt hk))
  have hold : ∀ k o, w.heap[k]? = some o → (w.alloc (.map #[] 0)).heap[k]? = some o := fun k o hk => by
    rw [Below.heap_alloc w _ k (heap_lt hk)]; exact hk
  have hlt : s < a.tmps.size := by rw [h.size]; exact hs
  have hb' : ∀ {s' : Nat} {c : List V}, upd st.b s none s' = some c → s' ≠ s ∧ st.b s' = some c := fun {s' c} hc => by
    rw [upd_at] at hc
    split at hc
    · cases hc
    · rename_i e; exact ⟨e, hc⟩
  refine ⟨fun i => ?_, by simp [Act.put, h.size], fun s' c' hs' => ?_, fun s1 s2 c1 c2 h1 h2 heq => ?_, h.below.alloc h.below.size _, ⟨h.par.1, fun s' hs' => (upd_ne _ _ (by have := h.par.1; omega)).trans (h.par.2.1 s' hs'), h.par.2.2⟩, ⟨fun blk hb hy => by rw [upd_ne _ _ (by have := h.below.size; omega)]; exact h.mold.1 blk hb hy, h.mold.2.1.trans he, h.mold.2.2⟩, ?_, fun i s' sz len c' hi hc => ?_, h.defers, fun g => (h.glob g).mono he, h.j, ⟨fun i s' ks vs hi => ?_, fun i j s1 s2 ks vs ks' vs' hi hj e => ?_⟩⟩
  · simp only [Act.put, getD_set _ _ _ _ hlt, upd_at st.t]
    split
    · have := Rs.ofMp (m := upd m w.heap.size (some 0)) (w := w.alloc (.map #[] 0)) (β := upd β s w.heap.size) s [] []
      rwa [upd_same] at this
    · exact ((h.tmps i).mono he).beta (fun s' hs' => upd_ne _ _ (fun e => hn i (by rw [hs', e])))
  · obtain ⟨h1, h2⟩ := hb' hs'
    rw [upd_ne _ _ h1]
    obtain ⟨⟨hl, vals, ty, xs, rest, hh, hx, hr⟩, hge⟩ := h.boxes s' c' h2
    exact ⟨⟨by rw [hml _ _ hh]; exact hl, vals, ty, xs, rest, hold _ _ hh, hx, hr.mono he⟩, hge⟩
  · obtain ⟨q1, q2⟩ := hb' h1
    obtain ⟨q3, q4⟩ := hb' h2
    rw [upd_ne _ _ q1, upd_ne _ _ q3] at heq
    exact h.inj _ _ _ _ q2 q4 heq
  · obtain ⟨ρ, hr⟩ := h.rows
    refine ⟨ρ, hr.to (fun v sz es s' hi => hi.from (fun i hi => ?_) (fun k c j h1 h2 h3 h4 => ?_)) (fun v sz es s' hi => ?_) (fun v sz es s' k c hi hk => ?_)⟩
    · simp only [upd_at st.t] at hi
      simp only [Act.put, getD_set _ _ _ _ hlt]
      split at hi
      · cases hi
      · rename_i e; rw [if_neg e]; exact .inl ⟨i, hi, rfl⟩
    · obtain ⟨q1, q2⟩ := hb' h2
      rw [upd_ne _ _ q1] at h4
      obtain ⟨⟨_, vals, ty, xs, rest, hh, _, _⟩, _⟩ := h.boxes _ _ q2
      rw [cell_block (Below.heap_alloc w _ _ (heap_lt hh))] at h4
      exact .inr ⟨k, c, j, h1, q2, h3, h4⟩
    · obtain ⟨_, _, _, _, _, _, hh, _⟩ := hr.row v sz es s' hi
      exact ⟨Below.heap_alloc w _ _ (heap_lt hh), hml _ _ hh⟩
    · obtain ⟨q1, q2⟩ := hb' hk
      rw [upd_ne _ _ q1]
      exact hr.box _ _ _ _ _ _ hi q2
  · obtain ⟨q1, q2⟩ := hb' hc
    simp only [upd_at st.t] at hi
    simp only [Act.put, getD_set _ _ _ _ hlt]
    split at hi
    · cases hi
    · rename_i e
      rw [if_neg e]
      obtain ⟨hl, cap, cur, ty, hv, hh, hsz⟩ := h.own i s' sz len c' hi q2
      exact ⟨hl, cap, cur, ty, by rw [upd_ne _ _ q1]; exact hv, by rw [upd_ne _ _ q1]; exact hold _ _ hh, hsz⟩
  · simp only [upd_at st.t] at hi
    split at hi
    · cases hi
      rw [upd_same]
      exact ⟨⟨#[], 0, World.heap_new w _, trivial, (fun e he => by cases he), List.nodup_nil, upd_same _ _ _⟩, .inl h.below.size⟩
    · have hne : s' ≠ s := fun e => hn i (by rw [hi, e]; rfl)
      rw [upd_ne _ _ hne]
      obtain ⟨⟨ents, clock, hh, hrd, q1, q2, q4⟩, q3⟩ := h.maps.holds i s' ks vs hi
      exact ⟨⟨ents, clock, hold _ _ hh, hrd.mono he, q1, q2, by rw [hml _ _ hh]; exact q4⟩, q3⟩
  · simp only [upd_at st.t] at hi hj
    have hsz : ∀ {k s' : Nat} {ks vs : List V}, st.t k = .mp s' ks vs → s' ≠ s ∧ β s' < w.heap.size := fun {k s' ks vs} hk => by
      obtain ⟨⟨ents, clock, hh, _⟩, _⟩ := h.maps.holds _ _ _ _ hk
      exact ⟨fun e => hn k (by rw [hk, e]; rfl), heap_lt hh⟩
    split at hi <;> split at hj
    · cases hi; cases hj; rfl
    · cases hi
      obtain ⟨q1, q2⟩ := hsz hj
      rw [upd_same, upd_ne _ _ q1] at e
      omega
    · cases hj
      obtain ⟨q1, q2⟩ := hsz hi
      rw [upd_same, upd_ne _ _ q1] at e
      omega
    · obtain ⟨q1, q2⟩ := hsz hi
      obtain ⟨q3, q4⟩ := hsz hj
      rw [upd_ne _ _ q1, upd_ne _ _ q3] at e
      exact h.maps.inj _ _ _ _ _ _ _ _ hi hj e
/-- .. and one that a call made. -/
theorem Rel.newMapAt (h : Rel E n pm m0 w0 m β st a w) {s g : Nat} {ks vs : List V} {m' : Lim} {w' : World} (hs : s < n) (hn : noPtrTo s st.t) (hb : Below w.heap.size w w') (hm : ∀ blk, blk < w.heap.size → m' blk = m blk) (hg : w.heap.size ≤ g) (hM : MapAt m' w' g ks vs) :
    Rel E n pm m0 w0 m' (upd β s g) ⟨upd st.t s (.mp s ks vs), upd st.b s none⟩ (a.put (some s) (.map (some g))) w' := by
  have h' := h.call hb hm
  have hlt : s < a.tmps.size := by rw [h.size]; exact hs
  have hb' : ∀ {s' : Nat} {c : List V}, upd st.b s none s' = some c → s' ≠ s ∧ st.b s' = some c := fun {s' c} hc => by
    rw [upd_at] at hc
    split at hc
    · cases hc
    · rename_i e; exact ⟨e, hc⟩
  refine ⟨fun i => ?_, by simp [Act.put, h.size], fun s' c' hs' => ?_, fun s1 s2 c1 c2 h1 h2 heq => ?_, h'.below, ⟨h.par.1, fun s' hs' => (upd_ne _ _ (by have := h.par.1; omega)).trans (h.par.2.1 s' hs'), h.par.2.2⟩, h'.mold, ?_, fun i s' sz len c' hi hc => ?_, h.defers, h'.glob, h.j, ⟨fun i s' ks' vs' hi => ?_, fun i j s1 s2 ks1 vs1 ks2 vs2 hi hj e => ?_⟩⟩
  · simp only [Act.put, getD_set _ _ _ _ hlt, upd_at st.t]
    split
    · have := Rs.ofMp (m := m') (w := w') (β := upd β s g) s ks vs
      rwa [upd_same] at this
    · exact (h'.tmps i).beta (fun s' hs' => upd_ne _ _ (fun e => hn i (by rw [hs', e])))
  · obtain ⟨h1, h2⟩ := hb' hs'
    rw [upd_ne _ _ h1]
    exact h'.boxes s' c' h2
  · obtain ⟨q1, q2⟩ := hb' h1
    obtain ⟨q3, q4⟩ := hb' h2
    rw [upd_ne _ _ q1, upd_ne _ _ q3] at heq
    exact h.inj _ _ _ _ q2 q4 heq
  · obtain ⟨ρ, hr⟩ := h'.rows
    refine ⟨ρ, hr.to (fun v sz es s' hi => hi.from (fun i hi => ?_) (fun k c j h1 h2 h3 h4 => ?_)) (fun v sz es s' hi => ⟨rfl, rfl⟩) (fun v sz es s' k c hi hk => ?_)⟩
    · simp only [upd_at st.t] at hi
      simp only [Act.put, getD_set _ _ _ _ hlt]
      split at hi
      · cases hi
      · rename_i e; rw [if_neg e]; exact .inl ⟨i, hi, rfl⟩
    · obtain ⟨q1, q2⟩ := hb' h2
      rw [upd_ne _ _ q1] at h4
      exact .inr ⟨k, c, j, h1, q2, h3, h4⟩
    · obtain ⟨q1, q2⟩ := hb' hk
      rw [upd_ne _ _ q1]
      exact hr.box _ _ _ _ _ _ hi q2
  · obtain ⟨q1, q2⟩ := hb' hc
    simp only [upd_at st.t] at hi
    simp only [Act.put, getD_set _ _ _ _ hlt]
    split at hi
    · cases hi
    · rename_i e
      rw [if_neg e]
      obtain ⟨hl, cap, cur, ty, hv, hh, hsz⟩ := h'.own i s' sz len c' hi q2
      exact ⟨hl, cap, cur, ty, by rw [upd_ne _ _ q1]; exact hv, by rw [upd_ne _ _ q1]; exact hh, hsz⟩
  · simp only [upd_at st.t] at hi
    split at hi
    · cases hi
      rw [upd_same]
      exact ⟨hM, .inl (Nat.le_trans h.below.size hg)⟩
    · have hne : s' ≠ s := fun e => hn i (by rw [hi, e]; rfl)
      rw [upd_ne _ _ hne]
      exact h'.maps.holds i s' ks' vs' hi
  · simp only [upd_at st.t] at hi hj
    have hsz : ∀ {k s' : Nat} {ks vs : List V}, st.t k = .mp s' ks vs → s' ≠ s ∧ β s' < w.heap.size := fun {k s' ks vs} hk => by
      obtain ⟨⟨ents, clock, hh, _⟩, _⟩ := h.maps.holds _ _ _ _ hk
      exact ⟨fun e => hn k (by rw [hk, e]; rfl), heap_lt hh⟩
    split at hi <;> split at hj
    · cases hi; cases hj; rfl
    · cases hi
      obtain ⟨q1, q2⟩ := hsz hj
      rw [upd_same, upd_ne _ _ q1] at e
      omega
    · cases hj
      obtain ⟨q1, q2⟩ := hsz hi
      rw [upd_same, upd_ne _ _ q1] at e
      omega
    · obtain ⟨q1, q2⟩ := hsz hi
      obtain ⟨q3, q4⟩ := hsz hj
      rw [upd_ne _ _ q1, upd_ne _ _ q3] at e
      exact h.maps.inj _ _ _ _ _ _ _ _ hi hj e
/-- A map of the call's own holds something else. -/
theorem Rel.setMap (h : Rel E n pm m0 w0 m β st a w) {s i0 : Nat} {ks vs ks' vs' : List V} (h0 : st.t i0 = .mp s ks vs) {ents : Array MapEntry} {clock : Nat}
    (hm : MapAt m { w with heap := w.heap.setIfInBounds (β s) (.map ents clock) } (β s) ks' vs') : Rel E n pm m0 w0 m β ⟨mapw s ks' vs' st.t, st.b⟩ a { w with heap := w.heap.setIfInBounds (β s) (.map ents clock) } := by
  obtain ⟨⟨e0, c0, hh0, _, _, _, hlim0⟩, hown⟩ := h.maps.holds i0 s ks vs h0
  have he := ext_setMap (m := m) (ents' := ents) (clock' := clock) hh0 hlim0
  have hoth := (MapKept.heap_set (o' := .map ents clock) hh0).2
  have hcell : ∀ {g : Nat} {cur : Array Value} {ty : TypeId} {fr : Nat × Nat}, w.heap[g]? = some (.cells cur ty fr) → g ≠ β s := fun {g cur ty fr} hg e => by
    subst e; rw [hh0] at hg; cases hg
  have hsl : ∀ {i sz s' : Nat} {nl : Bool} {es : List V}, mapw s ks' vs' st.t i = .sl nl sz es (some s') → st.t i = .sl nl sz es (some s') := fun {i sz s' nl es} hi => by
    have hi : mapwV s ks' vs' (st.t i) = _ := hi
    rcases mapwV_is s ks' vs' (st.t i) with e | ⟨_, e⟩
    · rw [e] at hi; exact hi
    · rw [e] at hi; cases hi
  refine ⟨fun i => ?_, h.size, fun s' c' hs' => ?_, h.inj, ⟨h.below.os, h.below.tape, h.below.output, by simpa using h.below.size, fun k hk hx => ?_⟩, h.par, ⟨h.mold.1, h.mold.2.1.trans he, h.mold.2.2⟩, ?_, fun i s' sz len c' hi hc => ?_, h.defers, fun g => (h.glob g).mono he, h.j, ⟨fun i s' ks1 vs1 hi => ?_, fun i j s1 s2 ks1 vs1 ks2 vs2 hi hj e => ?_⟩⟩
  · show Rs m _ β _ (mapwV s ks' vs' (st.t i))
    have := (h.tmps i).mono he
    rcases mapwV_is s ks' vs' (st.t i) with e | ⟨⟨k1, v1, e1⟩, e⟩
    · rw [e]; exact this
    · rw [e]
      rw [e1] at this
      rw [this.mp]
      exact .ofMp _ _ _
  · obtain ⟨⟨hl, vals, ty, xs, rest, hh, hx, hr⟩, hge⟩ := h.boxes s' c' hs'
    exact ⟨⟨hl, vals, ty, xs, rest, by show (w.heap.setIfInBounds _ _)[_]? = _; rw [hoth _ (hcell hh)]; exact hh, hx, hr.mono he⟩, hge⟩
  · show (w.heap.setIfInBounds _ _)[k]? = _
    rw [hoth k (fun e => by subst e; rcases hown with h1 | h1; omega; exact hx h1)]
    exact h.below.block k hk hx
  · obtain ⟨ρ, hr⟩ := h.rows
    refine ⟨ρ, hr.to (fun v sz es s' hi => hi.from (fun i hi => .inl ⟨i, hsl hi, rfl⟩) (fun k c j h1 h2 h3 h4 => ?_)) (fun v sz es s' hi => ?_) (fun v sz es s' k c hi hk => hr.box _ _ _ _ _ _ hi hk)⟩
    · obtain ⟨⟨_, vals, ty, xs, rest, hh, _, _⟩, _⟩ := h.boxes _ _ h2
      rw [cell_block (w := w) (by show (w.heap.setIfInBounds _ _)[_]? = _; rw [hoth _ (hcell hh)])] at h4
      exact .inr ⟨k, c, j, h1, h2, h3, h4⟩
    · obtain ⟨_, _, _, _, _, _, hh, _⟩ := hr.row v sz es s' hi
      exact ⟨by show (w.heap.setIfInBounds _ _)[_]? = _; rw [hoth _ (hcell hh)], rfl⟩
  · have hi' : st.t i = .row s' sz len := by
      have hi : mapwV s ks' vs' (st.t i) = _ := hi
      rcases mapwV_is s ks' vs' (st.t i) with e | ⟨_, e⟩
      · rw [e] at hi; exact hi
      · rw [e] at hi; cases hi
    obtain ⟨hl, cap, cur, ty, hv, hh, hsz⟩ := h.own i s' sz len c' hi' hc
    exact ⟨hl, cap, cur, ty, hv, by show (w.heap.setIfInBounds _ _)[_]? = _; rw [hoth _ (hcell hh)]; exact hh, hsz⟩
  · have hi1 : mapwV s ks' vs' (st.t i) = .mp s' ks1 vs1 := hi
    rcases mapwV_is s ks' vs' (st.t i) with e | ⟨⟨k1, v1, e1⟩, e⟩
    · have hi2 : st.t i = .mp s' ks1 vs1 := e.symm.trans hi1
      obtain ⟨⟨ents1, clock1, hh, hrd, q1, q2⟩, q3⟩ := h.maps.holds i s' ks1 vs1 hi2
      by_cases hs : s' = s
      · subst hs
        rw [hi2, mapwV_eq] at e
        simp only [mapw0, if_true] at e
        obtain ⟨_, rfl, rfl⟩ := V.mp.inj e
        exact ⟨hm, hown⟩
      · have hne : β s' ≠ β s := fun e' => hs (h.maps.inj _ _ _ _ _ _ _ _ hi2 h0 e')
        exact ⟨⟨ents1, clock1, by show (w.heap.setIfInBounds _ _)[_]? = _; rw [hoth _ hne]; exact hh, hrd.mono he, q1, q2⟩, q3⟩
    · rw [e] at hi1
      cases hi1
      exact ⟨hm, hown⟩
  · have key : ∀ {i s' : Nat} {ks1 vs1 : List V}, mapw s ks' vs' st.t i = .mp s' ks1 vs1 → ∃ ks2 vs2, st.t i = .mp s' ks2 vs2 := fun {i s' ks1 vs1} hi => by
      have hi : mapwV s ks' vs' (st.t i) = _ := hi
      rcases mapwV_is s ks' vs' (st.t i) with e | ⟨⟨k1, v1, e1⟩, e⟩
      · rw [e] at hi; exact ⟨_, _, hi⟩
      · rw [e] at hi; cases hi; exact ⟨_, _, e1⟩
    obtain ⟨_, _, hi'⟩ := key hi
    obtain ⟨_, _, hj'⟩ := key hj
    exact h.maps.inj _ _ _ _ _ _ _ _ hi' hj' e
theorem rdl_of_flat {n : Nat} : ∀ (es : List V) (cs : List Value), Flat m w cs n es → RdL m w cs (es.flatMap V.cells)
  | [], cs, h => by
    have := h.len
    simp at this
    subst this
    trivial
  | e :: es, cs, h => by
    have hlen := h.len
    simp only [List.length_cons, Nat.add_mul, Nat.one_mul] at hlen
    obtain ⟨hn, hc⟩ := h.each 0 e rfl
    have h1 : RdL m w (cs.take n) e.cells := RdL.of_get (by simp; omega) (fun j v d hv hd => by
      obtain ⟨x, hx, hr⟩ := hc j d hd
      rw [List.getElem?_take] at hv
      split at hv
      · rw [Nat.zero_mul, Nat.zero_add] at hx
        rw [hx] at hv
        cases hv
        exact hr
      · cases hv)
    have h2 := rdl_of_flat es (cs.drop n) ⟨by simp; omega, fun i u hu => ⟨(h.each (i + 1) u (by simpa using hu)).1, fun j d hd => by
      obtain ⟨x, hx, hr⟩ := (h.each (i + 1) u (by simpa using hu)).2 j d hd
      refine ⟨x, ?_, hr⟩
      rw [List.getElem?_drop, ← hx, Nat.add_mul]
      congr 1
      omega⟩⟩
    rw [List.flatMap_cons, ← List.take_append_drop n cs]
    exact h1.append h2

theorem growV_sound (h : Rel E n pm m0 w0 m β st a w) {dst : Option Tmp} (hd : ∀ k, dst = some k → k < n) {sx sy : Operand} {t t' ty el : TypeId} {st' : St} {yv : V} (hsrc : ∀ i nl sz es tok, yv = .sl nl sz es tok → E.P.info? el = some i → (sz = i.size ∨ es = []) → ∃ cs, SrcOf E.P m w t t' el i (a.eval sy) es cs)
    (hg : growV E st dst el (ev E st sx) yv = some st') : ∃ v w' m' β', (Builtin.append_ #[t, t'] ty #[a.eval sx, a.eval sy]).run E.P w = .ok v w' ∧ Rel E n pm m0 w0 m' β' st' (a.put dst v) w' := by
  have hx := ev_sound h sx
  obtain ⟨ρ, hrw⟩ := h.rows
  have hρlt : ∀ {v : Value} {sz0 : Nat} {es0 : List V} {s : Nat}, Bear E w β st (fun i => a.tmps.getD i Go.undef) v (.sl false sz0 es0 (some s)) → ρ s < w.heap.size := fun hi => by
    obtain ⟨_, _, _, _, _, _, hh, _⟩ := hrw.row _ _ _ _ hi
    exact heap_lt hh
  have hβlt : ∀ {s : Nat} {cs : List V}, st.b s = some cs → β s < w.heap.size := fun hs => by
    obtain ⟨⟨_, _, _, _, _, hh, _⟩, _⟩ := h.boxes _ _ hs
    exact heap_lt hh
  unfold growV at hg
  split at hg
  · rename_i d sz by' z hsz hby hz
    obtain ⟨i, hi, rfl⟩ := info_of hsz
    have hbi : i.bytes = by' := by simpa [byB, hi] using hby
    obtain ⟨zv, hzv, hzs⟩ := zero_of hi hz
    subst hbi
    have hdn : d < n := hd d rfl
    split at hg
    · rename_i sz0 tok0 nl' sz' es' tok' hA
      split at hg
      · rename_i hc
        obtain ⟨hn0, hzl, hs', hone, hby1, hmax⟩ := hc
        cases hg
        rw [hA] at hx
        obtain ⟨k', hk', hkb⟩ : ∃ k', stripO tok0 (strip d st.t) = strip k' (strip d st.t) ∧ stripBO E tok0 (stripB E d st.b) = stripB E k' (stripB E d st.b) := by
          cases tok0 with
          | none => exact ⟨d, (strip_strip _ _).symm, (stripB_strip _ _ _).symm⟩
          | some k => exact ⟨k, rfl, rfl⟩
        rw [hk', hkb]
        rcases (hx.rd (by intros; simp)).flat with ⟨_, hxv, _⟩ | ⟨hf, _⟩ | ⟨_, _, _, _, hf, _⟩
        · rw [hxv]
          obtain ⟨cs, hS⟩ := hsrc i _ _ _ _ rfl hi hs'
          have hflat := hS.flat
          by_cases he : es' = []
          · have hE := hS.nilE he ty
            subst he
            refine ⟨.slice none 0 0, w, m, β, hE, ((h.stripped d).stripped k').put (d := some d) (fun k e => hd k e) (.of (.nil _ _)) (fun sz es s e => by cases e) (fun s sz len cs e => by cases e) (fun s ks vs e => by cases e)⟩
          · have hpos : 0 < es'.length := List.length_pos_iff.2 he
            have hrun := hS.nil he ty zv hzv hpos (by omega) (by omega)
            have hge := grownCap_ge w es'.length 0 el
            have hext := Ext.fresh m w (.cells (cs.toArray ++ Builtin.zeroCells zv.cells (grownCap w es'.length 0 el - es'.length)) el) (some (es'.length * i.size))
            have hhp : (w.drew.alloc (.cells (cs.toArray ++ Builtin.zeroCells zv.cells (grownCap w es'.length 0 el - es'.length)) el)).heap[w.heap.size]? = some (.cells (cs.toArray ++ Builtin.zeroCells zv.cells (grownCap w es'.length 0 el - es'.length)) el) := World.heap_new w.drew _
            refine ⟨_, _, upd m w.heap.size (some (es'.length * i.size)), β, hrun, ?_⟩
            have hemp : es'.isEmpty = false := by simpa using he
            rw [hemp]
            have hg := h.grown hrw (d := d) (k := k') (g' := w.heap.size) (sz := i.size) (es' := es') hdn hext
              (h.below.drew.alloc h.below.size _) (fun g hg hne => ⟨by rw [Below.heap_alloc w.drew _ g hg]; rfl, upd_ne _ _ hne⟩)
              ⟨.inl h.below.size, upd_same _ _ _, _, _, _, rfl, hhp, hge, by
                rw [Array.size_append, size_zeroCells]
                simp only [List.size_toArray, hflat.len, hzs, hzl]
                rw [← Nat.add_mul]; congr 1; omega⟩
              (Rd.of_flat (hflat.mono hext) hhp (fun j x hj => by rw [Array.getElem?_append_left (by simpa using lt_of_some hj)]; simpa using hj) hge (fun fr hf => by rw [upd_same] at hf; cases hf; exact Nat.le_refl _) _)
              (fun v0 sz0 es0 s hi' => Nat.ne_of_lt (hρlt (Bear.stripped (Bear.stripped (st := ⟨strip d st.t, stripB E d st.b⟩) hi').1).1)) (fun s cs hs => Nat.ne_of_lt (hβlt hs)) (fun e c h' => by have := heap_lt h'; omega)
            exact hg
        · cases hf
        · cases hf
      · cases hg
    · rename_i sz es k nl' sz' es' tok' hA
      split at hg
      · rename_i hc
        obtain ⟨hn0, hzl, rfl, hs', hone, hby1, hmax⟩ := hc
        cases hg
        obtain ⟨ix, rfl, hix⟩ := ev_tok hA
        have hbx : Bear E w β st (fun i => a.tmps.getD i Go.undef) (a.tmps.getD ix Go.undef) _ := Bear.slot (tm := fun i => a.tmps.getD i Go.undef) hix
        obtain ⟨hlo, hlim, cap0, cur, tyc, hxv, hh, hcap, hcs⟩ := hrw.row _ _ _ _ hbx
        rw [hA] at hx
        have hxv' : a.eval (.tmp ix) = .slice (some ⟨ρ k, 0, none⟩) es.length cap0 := hxv
        rw [hxv'] at hx ⊢
        obtain ⟨cs, hS⟩ := hsrc i _ _ _ _ rfl hi hs'
        have hflat := hS.flat
        rcases (hx.rd (by intros; simp)).flat with ⟨hf, _⟩ | ⟨_, _, hf, _⟩ | ⟨blk, off, cap1, olds, _, hv1, hfo, hco⟩
        · cases hf
        · cases hf
        · cases hv1
          have hco' : ∀ (j : Nat) (x : Value), olds[j]? = some x → cur[j]? = some x := fun j x hj => by have := hco j x hj; rwa [Nat.zero_add, Box.cell hh] at this
          have hle : olds.length ≤ cur.size := by rw [hfo.len, hcs]; exact Nat.mul_le_mul_right _ hcap
          have htake : cur.toList.take (es.length * i.size) = olds := by
            apply List.ext_getElem?
            intro j
            rw [List.getElem?_take, ← hfo.len]
            split
            · rename_i hj
              have := hco' j _ (List.getElem?_eq_getElem hj)
              rw [List.getElem?_eq_getElem hj]
              simpa using this
            · rename_i hj
              rw [List.getElem?_eq_none (by omega)]
          by_cases hroom : es.length + es'.length ≤ cap0
          · have hfit : es.length * i.size + cs.length ≤ cur.size := by
              rw [hflat.len, hcs, ← Nat.add_mul]
              exact Nat.mul_le_mul_right _ hroom
            have hrun := hS.room ty (ρ k) es.length cap0 cur (.plain tyc) hh (hflat.one hone) hroom hfit
            rw [htake] at hrun
            have hhp := setRow_heap w (ρ k) cur (olds ++ cs ++ cur.toList.drop (es.length * i.size + cs.length)).toArray tyc (0, 0) hh
            have hpre : ∀ (j : Nat) (x : Value), (olds ++ cs)[j]? = some x → (olds ++ cs ++ cur.toList.drop (es.length * i.size + cs.length)).toArray[j]? = some x := fun j x hj => by
              rw [List.getElem?_toArray, List.getElem?_append_left (lt_of_some hj)]; exact hj
            have hext : Ext m w (upd m (ρ k) (some ((es.length + es'.length) * i.size))) (w.setRow (ρ k) (olds ++ cs ++ cur.toList.drop (es.length * i.size + cs.length)).toArray) := by
              refine ⟨by simp, fun blk off v hb hm hc => ?_, fun blk hb fr hf => ?_, fun blk es c hm hc => by rw [setRow_other w _ _ _ (fun e => by rw [e, hlim] at hm; cases hm)]; exact hc⟩
              · by_cases hne : blk = ρ k
                · subst hne
                  have hlt := hm _ hlim
                  rw [Box.cell hh] at hc
                  rw [Box.cell hhp]
                  refine hpre _ _ ?_
                  rw [List.getElem?_append_left (by rw [hfo.len]; exact hlt), ← htake, List.getElem?_take, if_pos hlt]
                  simpa using hc
                · rw [cell_setRow_other w _ _ _ hne]; exact hc
              · rw [upd_at] at hf
                split at hf
                · rename_i e
                  subst e
                  cases hf
                  exact ⟨_, hlim, Nat.mul_le_mul_right _ (by omega)⟩
                · exact ⟨fr, hf, Nat.le_refl _⟩
            have hsize : (olds ++ cs ++ cur.toList.drop (es.length * i.size + cs.length)).toArray.size = cap0 * i.size := by
              have h1 := hfo.len
              have h2 : (olds ++ cs ++ cur.toList.drop (es.length * i.size + cs.length)).length = olds.length + cs.length + (cur.size - (es.length * i.size + cs.length)) := by simp only [List.length_append, List.length_drop, Array.length_toList]
              show (olds ++ cs ++ cur.toList.drop (es.length * i.size + cs.length)).length = _
              omega
            have hll : (es ++ es').length = es.length + es'.length := List.length_append
            refine ⟨_, _, upd m (ρ k) (some ((es.length + es'.length) * i.size)), β, hrun, ?_⟩
            rw [← hll]
            refine h.grown hrw hdn (g' := ρ k) (by rw [hll]; exact hext) (h.below.setRow (hlo.imp id (h.mold.2.2 _)) _) (fun g hg hne => ⟨setRow_other w _ _ _ hne, upd_ne _ _ hne⟩)
              ⟨hlo, by rw [upd_same], cap0, _, tyc, rfl, hhp, by rw [hll]; exact hroom, hsize⟩
              (Rd.of_flat ((hfo.append hflat).mono (by rw [hll]; exact hext)) hhp hpre (by rw [hll]; exact hroom) (fun fr hf => by rw [upd_same] at hf; cases hf; exact Nat.le_refl _) _)
              (fun v0 sz0 es0 s hi' e => ?_) (fun s cs hs => hrw.box _ _ _ _ _ _ hbx hs) (fun e c h' => by rw [hh] at h'; cases h')
            obtain ⟨h1, h2⟩ := Bear.stripped (st := ⟨strip d st.t, stripB E d st.b⟩) hi'
            exact h2 (hrw.sep _ _ _ _ _ _ _ _ (Bear.stripped h1).1 hbx e)
          · have he : es' ≠ [] := by intro h0; rw [h0] at hroom; exact hroom hcap
            have hrun := hS.grow he ty zv ⟨ρ k, 0, none⟩ es.length cap0 olds hzv hfo.len (fun j x hj => by rw [Addr_add_eq]; exact hco j x hj) (by omega) (by omega) (growslice_fits (by omega) hby1)
            have hge := grownCap_ge w (es.length + es'.length) cap0 el
            have hll : (es ++ es').length = es.length + es'.length := List.length_append
            have hext := Ext.fresh m w (.cells (olds.toArray ++ cs.toArray ++ Builtin.zeroCells zv.cells (grownCap w (es.length + es'.length) cap0 el - (es.length + es'.length))) el) (some ((es ++ es').length * i.size))
            have hhp : (w.drew.alloc (.cells (olds.toArray ++ cs.toArray ++ Builtin.zeroCells zv.cells (grownCap w (es.length + es'.length) cap0 el - (es.length + es'.length))) el)).heap[w.heap.size]? = some (.cells (olds.toArray ++ cs.toArray ++ Builtin.zeroCells zv.cells (grownCap w (es.length + es'.length) cap0 el - (es.length + es'.length))) el) := World.heap_new w.drew _
            refine ⟨_, _, upd m w.heap.size (some ((es ++ es').length * i.size)), β, hrun, ?_⟩
            rw [← hll] at hge ⊢
            refine h.grown hrw hdn (g' := w.heap.size) (by rw [hll]; rw [hll] at hext; exact hext) (h.below.drew.alloc h.below.size _) (fun g hg hne => ⟨by rw [Below.heap_alloc w.drew _ g hg]; rfl, upd_ne _ _ hne⟩)
              ⟨.inl h.below.size, upd_same _ _ _, _, _, _, rfl, by rw [hll]; exact hhp, hge, by
                rw [Array.size_append, Array.size_append, size_zeroCells]
                simp only [List.size_toArray, hfo.len, hflat.len, hzs, hzl]
                rw [← Nat.add_mul, ← Nat.add_mul, ← hll]; congr 1; omega⟩
              (Rd.of_flat ((hfo.append hflat).mono (by rw [hll]; rw [hll] at hext; exact hext)) (by rw [hll]; exact hhp) (fun j x hj => by
                rw [Array.getElem?_append_left (by have := lt_of_some hj; simpa using this)]
                simpa using hj) hge (fun fr hf => by rw [upd_same] at hf; cases hf; exact Nat.le_refl _) _)
              (fun v0 sz0 es0 s hi' => Nat.ne_of_lt (hρlt (Bear.stripped (Bear.stripped (st := ⟨strip d st.t, stripB E d st.b⟩) hi').1).1)) (fun s cs hs => Nat.ne_of_lt (hβlt hs)) (fun e c h' => by have := heap_lt h'; omega)
      · cases hg
    · rename_i s sz len nl' sz' es' tok' hA
      split at hg
      · rename_i cs hcs
        split at hg
        · rename_i hc
          obtain ⟨hn0, hzl, rfl, hs', hone, hby1, hmax, hmb⟩ := hc
          cases hg
          obtain ⟨ix, rfl, hix⟩ := ev_row h hA
          obtain ⟨hfit, cap0, cur, tyc, hxv, hh, hcs0⟩ := h.own ix s i.size len cs hix hcs
          obtain ⟨⟨hlim, vals, ty0, xs, rest, hh', hvs, hr⟩, hlo⟩ := h.boxes s cs hcs
          rw [hh] at hh'
          obtain rfl : cur = vals := by injection hh' with hh'; injection hh'
          have hxv' : a.eval (.tmp ix) = .slice (some ⟨β s, 0, none⟩) len cap0 := hxv
          have hcap : len ≤ cap0 := by
            obtain ⟨cap', hv', hc'⟩ := (hix ▸ h.tmps ix : Rs m w β (a.tmps.getD ix Go.undef) (.row s i.size len)).row
            have hxv : a.tmps.getD ix Go.undef = .slice (some ⟨β s, 0, none⟩) len cap0 := hxv
            rw [hv'] at hxv
            cases hxv
            exact hc'
          rw [hxv']
          obtain ⟨news, hS⟩ := hsrc i _ _ _ _ rfl hi hs'
          have hflat := hS.flat
          have hxl := hr.length
          have hcl : cur.size = xs.length + rest.length := by rw [← Array.length_toList, hvs, List.length_append]
          have hnl : news.length = es'.length * i.size := hflat.len
          have htk : cur.toList.take (len * i.size) = xs.take (len * i.size) := by rw [hvs, List.take_append_of_le_length (by omega)]
          have hnew : RdL m w (xs.take (len * i.size) ++ news) (cs.take (len * i.size) ++ es'.flatMap V.cells) := (hr.take _).append (rdl_of_flat _ _ hflat)
          have hnl2 := hnew.length
          have hol : (xs.take (len * i.size)).length = len * i.size := by rw [List.length_take]; omega
          have hmul : (len + es'.length) * i.size = len * i.size + es'.length * i.size := Nat.add_mul _ _ _
          by_cases hroom : len + es'.length ≤ cap0
          · have hmc : (len + es'.length) * i.size ≤ cap0 * i.size := Nat.mul_le_mul_right _ hroom
            have hrun := hS.room ty (β s) len cap0 cur tyc hh (hflat.one hone) hroom (by omega)
            rw [htk] at hrun
            have hext : Ext m w m (w.setRow (β s) (xs.take (len * i.size) ++ news ++ cur.toList.drop (len * i.size + news.length)).toArray) := by
              refine ⟨by simp, fun blk off v hb hm hc => ?_, fun blk hb fr hf => ⟨fr, hf, Nat.le_refl _⟩, fun blk es c hm hc => by rw [setRow_other w _ _ _ (fun e => by rw [e, hlim] at hm; cases hm)]; exact hc⟩
              have hne : blk ≠ β s := by
                rintro rfl
                have := hm 0 hlim
                omega
              rw [cell_setRow_other w _ _ _ hne]
              exact hc
            refine ⟨_, _, m, upd β d (β s), hrun, ?_⟩
            exact h.regrow hrw hdn hmb hcs (g' := β s) (ty' := tyc.to (by simp only [List.size_toArray, List.length_append, hol, List.length_drop, Array.length_toList]; omega)) (xs' := xs.take (len * i.size) ++ news) (rest' := cur.toList.drop (len * i.size + news.length)) hext (h.below.setRow hlo _) (fun g hg hne => ⟨setRow_other w _ _ _ hne, rfl⟩) (hlo.imp id fun hx => ⟨hx, hlim⟩) hlim
              (setRow_heap w _ _ _ _ _ hh) (by simp) (hnew.mono hext) (by rw [← hnl2, List.length_append, hol, hnl, hmul]; exact Nat.le_refl _) hroom
              (by simp only [List.size_toArray, List.length_append, hol, List.length_drop, Array.length_toList]; omega)
              (fun i' sz0 es0 s' hi' e => hrw.box _ _ _ _ _ _ hi' hcs e.symm) (fun s' c' hs' hne e => hne (h.inj _ _ _ _ hs' hcs e)) (fun e c h' => by rw [hh] at h'; cases h')
          · have he : es' ≠ [] := by intro h0; rw [h0] at hroom; exact hroom hcap
            have hrun := hS.grow he ty zv ⟨β s, 0, none⟩ len cap0 (xs.take (len * i.size)) hzv hol (fun j x hj => by
              rw [Addr_add_eq, Nat.zero_add, Box.cell hh, ← Array.getElem?_toList, hvs]
              have hj' := lt_of_some hj
              rw [hol] at hj'
              rw [List.getElem?_take, if_pos hj'] at hj
              rw [List.getElem?_append_left (by omega)]
              exact hj) (by omega) (by omega) (growslice_fits (by omega) hby1)
            have hge := grownCap_ge w (len + es'.length) cap0 el
            have hext := Ext.fresh m w (.cells ((xs.take (len * i.size)).toArray ++ news.toArray ++ Builtin.zeroCells zv.cells (grownCap w (len + es'.length) cap0 el - (len + es'.length))) el) (some 0)
            have hhp : (w.drew.alloc (.cells ((xs.take (len * i.size)).toArray ++ news.toArray ++ Builtin.zeroCells zv.cells (grownCap w (len + es'.length) cap0 el - (len + es'.length))) el)).heap[w.heap.size]? = some (.cells ((xs.take (len * i.size)).toArray ++ news.toArray ++ Builtin.zeroCells zv.cells (grownCap w (len + es'.length) cap0 el - (len + es'.length))) el) := World.heap_new w.drew _
            refine ⟨_, _, upd m w.heap.size (some 0), upd β d w.heap.size, hrun, ?_⟩
            exact h.regrow hrw hdn hmb hcs (g' := w.heap.size) (ty' := .plain el) (xs' := xs.take (len * i.size) ++ news) (rest' := (Builtin.zeroCells zv.cells (grownCap w (len + es'.length) cap0 el - (len + es'.length))).toList) hext (h.below.drew.alloc h.below.size _)
              (fun g hg hne => ⟨by rw [Below.heap_alloc w.drew _ g hg]; rfl, upd_ne _ _ hne⟩) (.inl h.below.size) (upd_same _ _ _) hhp (by simp) (hnew.mono hext) (by rw [← hnl2, List.length_append, hol, hnl, hmul]; exact Nat.le_refl _) hge
              (by
                rw [Array.size_append, Array.size_append, size_zeroCells]
                simp only [List.size_toArray, hol, hnl, hzs, hzl]
                rw [← Nat.add_mul, ← Nat.add_mul]; congr 1; omega)
              (fun i' sz0 es0 s' hi' => Nat.ne_of_lt (hρlt hi')) (fun s' c' hs' _ => Nat.ne_of_lt (hβlt hs')) (fun e c h' => by have := heap_lt h'; omega)
        · cases hg
      · cases hg
    · cases hg
  · cases hg

theorem makeV_sound (h : Rel E n pm m0 w0 m β st a w) {dst : Option Tmp} (hd : ∀ k, dst = some k → k < n) {x y : Value} {A B : V} (hx : Rs m w β x A) (hy : Rs m w β y B) {t el : TypeId} {st' : St} (hu : E.P.underlying t = some (.slice el))
    (hg : makeV E st dst el A B = some st') : ∃ v w' m', (Instr.makeSlice t x y).run E.P w = .ok v w' ∧ Rel E n pm m0 w0 m' β st' (a.put dst v) w' := by
  obtain ⟨ρ, hrw⟩ := h.rows
  have hρlt : ∀ {v : Value} {sz0 : Nat} {es0 : List V} {s : Nat}, Bear E w β st (fun i => a.tmps.getD i Go.undef) v (.sl false sz0 es0 (some s)) → ρ s < w.heap.size := fun hi => by
    obtain ⟨_, _, _, _, _, _, hh, _⟩ := hrw.row _ _ _ _ hi
    exact heap_lt hh
  have hβlt : ∀ {s : Nat} {cs : List V}, st.b s = some cs → β s < w.heap.size := fun hs => by
    obtain ⟨⟨_, _, _, _, _, hh, _⟩, _⟩ := h.boxes _ _ hs
    exact heap_lt hh
  unfold makeV at hg
  split at hg
  · rename_i d sz by' z hsz hby hz
    obtain ⟨i, hi, rfl⟩ := info_of hsz
    have hbi : i.bytes = by' := by simpa [byB, hi] using hby
    obtain ⟨zv, hzv, hzs⟩ := zero_of hi hz
    subst hbi
    have hdn : d < n := hd d rfl
    split at hg
    · rename_i kl l kc c
      split at hg
      · rename_i hc
        obtain ⟨hzl, rfl, hc0, hcb, hcm⟩ := hc
        cases hg
        obtain rfl := hx.x
        obtain rfl := hy.x
        have hrun := run_make (P := E.P) w t el i zv hu hi hzv kl kc 0 c (by omega) hc0 hcb hcm
        have hext := Ext.fresh0 m w (.cells (madeCells zv.cells (c.toNat * i.size)) el) (some 0)
        have hhp := World.heap_new w (.cells (madeCells zv.cells (c.toNat * i.size)) el)
        refine ⟨_, _, upd m w.heap.size (some 0), hrun, ?_⟩
        have hg := h.grown hrw (d := d) (k := d) (g' := w.heap.size) (sz := i.size) (es' := []) (v' := .slice (some ⟨w.heap.size, 0, none⟩) 0 c.toNat) hdn hext
          (h.below.alloc h.below.size _) (fun g hg hne => ⟨by rw [Below.heap_alloc w _ g hg], upd_ne _ _ hne⟩)
          ⟨.inl h.below.size, by rw [upd_same]; simp, _, _, _, rfl, hhp, Nat.zero_le _, by rw [size_madeCells]⟩
          (Rd.of_flat (Flat.nil _) hhp (fun j x hj => by simp at hj) (Nat.zero_le _) (fun fr hf => by simp) _)
          (fun v0 sz0 es0 s hi' => Nat.ne_of_lt (hρlt (Bear.stripped (Bear.stripped (st := ⟨strip d st.t, stripB E d st.b⟩) hi').1).1)) (fun s cs hs => Nat.ne_of_lt (hβlt hs)) (fun e c h' => by have := heap_lt h'; omega)
        rw [strip_strip, stripB_strip] at hg
        exact hg
      · cases hg
    · cases hg
  · cases hg

theorem fillV_row {n : Nat} : ∀ (parts : List (Nat × V)) (k len : Nat) (cells : List V), parts.map (·.1) = List.range' k parts.length → k + parts.length = len → cells.length = len * n → (∀ p ∈ parts, p.2.dat = true ∧ p.2.cells.length = n) →
    fillV (fun i => some (i * n, n)) cells parts = some (cells.take (k * n) ++ parts.flatMap (fun p => p.2.cells))
  | [], k, len, cells, _, hk, hc, _ => by
    simp only [List.length_nil, Nat.add_zero] at hk
    subst hk
    simp only [fillV, List.flatMap_nil, List.append_nil]
    rw [← hc, List.take_length]
  | (i, u) :: parts, k, len, cells, hr, hk, hc, hp => by
    simp only [List.map_cons, List.length_cons, List.range'_succ, List.cons.injEq] at hr hk
    obtain ⟨rfl, hr⟩ := hr
    obtain ⟨hd, hl⟩ := hp (i, u) (by simp)
    simp only at hd hl
    have hle : (i + 1) * n ≤ len * n := Nat.mul_le_mul_right _ (by omega)
    rw [Nat.add_mul, Nat.one_mul] at hle
    unfold fillV
    simp only
    rw [if_neg (by simp [hd, hl]; omega)]
    have hcl : (cells.take (i * n) ++ u.cells ++ cells.drop (i * n + n)).length = len * n := by
      simp only [List.length_append, List.length_take, List.length_drop, hl, hc]
      omega
    rw [fillV_row parts (i + 1) len _ hr (by omega) hcl (fun p hpm => hp p (by simp [hpm]))]
    congr 1
    have hlen1 : (cells.take (i * n) ++ u.cells).length = (i + 1) * n := by
      rw [Nat.add_mul, Nat.one_mul]
      simp only [List.length_append, List.length_take, hl, hc]
      omega
    rw [List.take_append_of_le_length (by omega), ← hlen1, List.take_length]
    simp

theorem flat_of_rdl {n : Nat} : ∀ (es : List V) (cs : List Value), (∀ e ∈ es, e.cells.length = n) → RdL m w cs (es.flatMap V.cells) → Flat m w cs n es
  | [], cs, _, h => by
    cases cs with
    | nil => exact Flat.nil n
    | cons c cs => exact h.elim
  | e :: es, cs, he, h => by
    have hn := he e (by simp)
    have hlen := h.length
    simp only [List.flatMap_cons, List.length_append, hn] at hlen
    have h1 := h.take n
    have h2 := h.drop n
    rw [List.flatMap_cons, ← hn, List.take_left, hn] at h1
    rw [List.flatMap_cons, ← hn, List.drop_left, hn] at h2
    have ih := flat_of_rdl es _ (fun e' h' => he e' (by simp [h'])) h2
    have h0 : Flat m w (cs.take n) n [e] := by
      refine ⟨by simp; omega, fun i u hu => ?_⟩
      cases i with
      | zero =>
        simp at hu
        subst hu
        refine ⟨hn, fun j d hd => ?_⟩
        have hj := lt_of_some hd
        have hlt : j < (cs.take n).length := by simp; omega
        exact ⟨(cs.take n)[j], by rw [Nat.zero_mul, Nat.zero_add]; exact List.getElem?_eq_getElem hlt, h1.get j _ d (List.getElem?_eq_getElem hlt) hd⟩
      | succ i => simp at hu
    have := h0.append ih
    rwa [List.take_append_drop] at this

theorem undefs (cs : List Value) : RdL m w cs (List.replicate cs.length .undef) := by
  induction cs with
  | nil => trivial
  | cons c cs ih => exact ⟨.undef c, ih⟩

theorem row_run {P : Program} {t el : TypeId} {len n : Nat} {z : List V} {parts : List (Nat × V)} {vs : List (Nat × Value)} (hm : vs.map (·.1) = parts.map (·.1))
    (hv : ∀ (i : Nat) (x : Nat × Value) (u : Nat × V), vs[i]? = some x → parts[i]? = some u → Rs m w β x.2 u.2) (ht : P.underlying t = some (.slice el)) (hsz : szB P el = some n) (hz : zeroB P el = some z)
    (hr : parts.map (·.1) = List.range len) (hmax : len * n ≤ 16777216) (hp : (parts.all fun p => p.2.dat && decide (p.2.cells.length = n)) = true) :
    ∃ cs' : Array Value, (Instr.buildSlice t len vs.toArray).run P w = .ok (.slice (some ⟨w.heap.size, 0, none⟩) len len) (w.alloc (.cells cs' el)) ∧ RdL m w cs'.toList (parts.flatMap fun p => p.2.cells) ∧ (parts.flatMap fun p => p.2.cells).length = len * n := by
  have hp' : ∀ p ∈ parts, p.2.dat = true ∧ p.2.cells.length = n := fun p hpm => by
    have := List.all_eq_true.1 hp p hpm
    simpa using this
  have hlen : parts.length = len := by simpa using congrArg List.length hr
  obtain ⟨zv, hzr, hzd⟩ := zeroB_sound (w := w) (m := m) hz
  let init : Array Value := (Array.range (len * n)).map (fun j => (if len * n = 0 then (#[] : Array Value) else zv.cells)[j % (if len * n = 0 then (#[] : Array Value) else zv.cells).size]!)
  have hinit : init.toList.length = len * n := by simp [init]
  have hf := fillV_row (n := n) parts 0 len (List.replicate (len * n) .undef) (by rw [hr, List.range_eq_range', hlen]) (by omega) (by simp) hp'
  simp only [Nat.zero_mul, List.take_zero, List.nil_append] at hf
  obtain ⟨cs', hcs', hd⟩ := fillV_sound (m := m) (w := w) (β := β) (cs := init) (by have := undefs (m := m) (w := w) init.toList; rwa [hinit] at this) hm hv hf
  have hrun : (Instr.buildSlice t len vs.toArray).run P w = .ok (.slice (some ⟨w.heap.size, 0, none⟩) len len) (w.alloc (.cells cs' el)) := by
    simp only [Instr.buildSlice, Sem.run_bind, run_und ht, Result.andThen_ok, run_szB hsz]
    rw [if_neg (by omega)]
    by_cases h0 : len * n = 0
    · have hi0 : init = #[] := by apply Array.eq_empty_of_size_eq_zero; rw [← Array.length_toList, hinit, h0]
      rw [hi0] at hcs'
      have e0 : ∀ f : Nat → Value, (Array.range 0).map f = #[] := fun f => by apply Array.toList_inj.1; rw [Array.toList_map, Array.toList_range]; rfl
      simp only [h0, if_true, Sem.run_bind, Sem.run_pure, Result.andThen_ok, e0, hcs', newRow, run_newObj]
      rfl
    · have : (Array.range (len * n)).map (fun j => zv.cells[j % zv.cells.size]!) = init := by simp [init, h0]
      simp only [h0, if_false, Sem.run_bind, hzr, Sem.run_pure, Result.andThen_ok, this, hcs', newRow, run_newObj]
      rfl
  refine ⟨cs', hrun, hd, ?_⟩
  have key : ∀ l : List (Nat × V), (∀ p ∈ l, p.2.dat = true ∧ p.2.cells.length = n) → (l.flatMap fun p => p.2.cells).length = l.length * n := by
    intro l
    induction l with
    | nil => intro _; simp
    | cons p l ih =>
      intro h
      rw [List.flatMap_cons, List.length_append, ih (fun q hq => h q (by simp [hq])), (h p (by simp)).2, List.length_cons, Nat.add_mul, Nat.one_mul]
      omega
  rw [key parts hp', hlen]

theorem newR_sound (h : Rel E n pm m0 w0 m β st a w) {dst : Option Tmp} (hd : ∀ k, dst = some k → k < n) {t : TypeId} {len : Nat} {parts : List (Nat × V)} {vs : List (Nat × Value)} (hm : vs.map (·.1) = parts.map (·.1))
    (hv : ∀ (i : Nat) (x : Nat × Value) (u : Nat × V), vs[i]? = some x → parts[i]? = some u → Rs m w β x.2 u.2) {st' : St} (hmb : E.okN dst (parts.flatMap fun p => p.2.cells) = true) (hx : newR E.P st dst t len parts = some st') :
    ∃ v w' m' β', (Instr.buildSlice t len vs.toArray).run E.P w = .ok v w' ∧ Rel E n pm m0 w0 m' β' st' (a.put dst v) w' := by
  unfold newR at hx
  split at hx
  · rename_i s el ht
    split at hx
    · rename_i k z hsz hz
      split at hx
      · rename_i hc
        obtain ⟨hn, hr, hmax, hp⟩ := hc
        cases hx
        obtain ⟨cs', hrun, hrd, hlen⟩ := row_run (β := β) hm hv ht hsz hz hr hmax hp
        exact ⟨_, _, _, _, hrun, h.newG (hd s rfl) hn hrd hmb (.inr ⟨k, len, rfl, rfl, hlen⟩)⟩
      · cases hx
    · cases hx
  · cases hx

theorem kv_is {u : V} {ks vs : List V} (h : u.kv = some (ks, vs)) : (∃ s, u = .mp s ks vs) ∨ u = .fm ks vs := by
  cases u <;> simp only [V.kv] at h <;> try (cases h; done)
  · cases h; exact .inl ⟨_, rfl⟩
  · cases h; exact .inr rfl
theorem madeCells_get (z : Array Value) (k n : Nat) (hz : z.size = n) (i j : Nat) (hi : i < k) (hj : j < n) : (madeCells z (k * n)).toList[i * n + j]? = z[j]? := by
  have h1 : i * n + j < k * n := by
    have : (i + 1) * n ≤ k * n := Nat.mul_le_mul_right n (by omega)
    rw [Nat.add_mul] at this
    omega
  have h2 : (i * n + j) % n = j := by rw [Nat.add_comm, Nat.add_mul_mod_self_right, Nat.mod_eq_of_lt hj]
  simp only [madeCells, Array.toList_map, List.getElem?_map, Array.toList_range]
  rw [List.getElem?_range h1]
  simp only [Option.map_some, hz, h2]
  rw [getElem!_pos z j (by omega), Array.getElem?_eq_getElem (by omega)]
theorem madeCells_rdl {z : Array Value} {n : Nat} (hz : z.size = n) : ∀ k : Nat, RdL m w (madeCells z (k * n)).toList (List.replicate k (z.toList.map ofVal)).flatten := by
  intro k
  have hlen : (List.replicate k (z.toList.map ofVal)).flatten.length = k * n := by
    simp [List.length_flatten, hz]
  refine RdL.of_get (by rw [hlen, Array.length_toList, size_madeCells]) (fun i v u hv hu => ?_)
  by_cases hn : n = 0
  · subst hn
    have := (List.getElem?_eq_some_iff.1 hu).1
    rw [hlen] at this
    omega
  have hi : i < k * n := by rw [← hlen]; exact (List.getElem?_eq_some_iff.1 hu).1
  have hq : i / n < k := Nat.div_lt_of_lt_mul (by rw [Nat.mul_comm]; exact hi)
  have hr : i % n < n := Nat.mod_lt _ (by omega)
  have hd : i / n * n + i % n = i := by rw [Nat.mul_comm]; exact Nat.div_add_mod i n
  have h1 := madeCells_get z k n hz (i / n) (i % n) hq hr
  rw [hd, hv] at h1
  have h2 : (List.replicate k (z.toList.map ofVal)).flatten[i]? = (z.toList.map ofVal)[i % n]? := by
    have key : ∀ (k q : Nat), q < k → (List.replicate k (z.toList.map ofVal)).flatten[q * n + i % n]? = (z.toList.map ofVal)[i % n]? := by
      intro k
      induction k with
      | zero => intro q hq; omega
      | succ k ih =>
        intro q hq
        rw [List.replicate_succ, List.flatten_cons]
        have hl : (z.toList.map ofVal).length = n := by simp [hz]
        cases q with
        | zero => rw [Nat.zero_mul, Nat.zero_add, List.getElem?_append_left (by omega)]
        | succ q =>
          rw [List.getElem?_append_right (by rw [hl, Nat.add_mul]; omega), hl, show (q + 1) * n + i % n - n = q * n + i % n by rw [Nat.add_mul]; omega]
          exact ih q (by omega)
    have := key k (i / n) hq
    rwa [hd] at this
  rw [hu, List.getElem?_map] at h2
  rw [← Array.getElem?_toList] at h1
  rw [← h1] at h2
  cases h2
  exact ofVal_rd v
theorem makeR_sound (h : Rel E n pm m0 w0 m β st a w) {dst : Option Tmp} (hd : ∀ k, dst = some k → k < n) {x y : Value} {A B : V} (hx : Rs m w β x A) (hy : Rs m w β y B) {t el : TypeId} {st' : St} (hu : E.P.underlying t = some (.slice el))
    (hg : makeR E st dst el A B = some st') : ∃ v w' m' β', (Instr.makeSlice t x y).run E.P w = .ok v w' ∧ Rel E n pm m0 w0 m' β' st' (a.put dst v) w' := by
  unfold makeR at hg
  split at hg
  · rename_i d sz by' z hsz hby hz
    obtain ⟨i, hi, rfl⟩ := info_of hsz
    have hbi : i.bytes = by' := by simpa [byB, hi] using hby
    obtain ⟨zv, hzv, hzs⟩ := zero_of hi hz
    have hze : z = zv.cells.toList.map ofVal := by
      simp only [zeroB, hi, Option.bind_some, hzv, Option.map_some, Option.some.injEq] at hz
      exact hz.symm
    subst hbi
    split at hg
    · rename_i kl l kc c
      split at hg
      · rename_i hc
        obtain ⟨hn, hzl, rfl, hc0, hcb, hcm, hmb⟩ := hc
        cases hg
        obtain rfl := hx.x
        obtain rfl := hy.x
        have hrun := run_make (P := E.P) w t el i zv hu hi hzv kl kc l l hc0 (Int.le_refl _) hcb hcm
        refine ⟨_, _, _, _, hrun, h.newG (hd d rfl) hn (by rw [hze]; exact madeCells_rdl (by rw [hzs, hzl]) _) hmb (.inr ⟨i.size, l.toNat, rfl, rfl, ?_⟩)⟩
        rw [List.length_flatten]
        simp [hzl]
      · cases hg
    · cases hg
  · cases hg

theorem bytesV_rdl : ∀ l : List UInt8, RdL m w (l.map fun b => Value.int .u8 b.toNat) (l.map fun b => V.x (.int .u8 b.toNat))
  | [] => trivial
  | _ :: l => ⟨.x _, bytesV_rdl l⟩
theorem below_bytes (w : World) (e : TypeId) (s : ByteArray) : Below w.heap.size w (Go.Lib.bytesWorld w e s) :=
  ⟨rfl, rfl, rfl, by rw [Go.Lib.bytesWorld_size]; exact Nat.le_succ _, fun k hk => Go.Lib.bytesWorld_at_old w e s k hk⟩
theorem row_bytes {P : Program} {g len cap : Nat} {vals : Array Value} {ty : TypeId} {fr : Nat × Nat} {xs rest : List Value} {cs : List V} {l : List UInt8} (hh : w.heap[g]? = some (.cells vals ty fr)) (hx : vals.toList = xs ++ rest) (hr : RdL m w xs cs) (hfit : len ≤ cs.length)
    (hl : bytesOf (cs.take len) = some l) : (Conv.bytesToString (.slice (some ⟨g, 0, none⟩) len cap)).run P w = .ok (.string ⟨l.toArray⟩) w := by
  obtain ⟨hlen, hat⟩ := bytesOf_at hl
  have hxl := hr.length
  rw [List.length_take] at hlen
  have hload := run_loadCells_list (P := P) w ⟨g, 0, none⟩ (xs.take len) (fun j v hj => by
    rw [Addr_add_eq, Nat.zero_add, Box.cell hh, ← Array.getElem?_toList, hx]
    have hj' := lt_of_some hj
    rw [List.length_take] at hj'
    rw [List.getElem?_take, if_pos (by omega)] at hj
    rw [List.getElem?_append_left (by omega)]
    exact hj)
  have h2 := hr.take len
  have hn : (xs.take len).length = len := by rw [List.length_take]; omega
  rw [hn] at hload
  unfold Conv.bytesToString
  simp only [Sem.run_bind, hload, Result.andThen_ok, List.forIn_toArray]
  rw [push_fold (cs := xs.take len) (l := l) (by intro n r; simp [Sem.run_pure]) ByteArray.empty (by rw [hn]; omega) (fun i b hb => by
    obtain ⟨n, hn1, hb1⟩ := hat i b hb
    have hi := lt_of_some hn1
    rw [List.length_take] at hi
    have hlt : i < (xs.take len).length := by rw [hn]; omega
    have := Rd.x_iff.1 (h2.get i _ _ (List.getElem?_eq_getElem hlt) hn1)
    exact ⟨n, by rw [List.getElem?_eq_getElem hlt, this], hb1⟩)]
  simp [Sem.run_pure]
theorem convV_sound (h : Rel E n pm m0 w0 m β st a w) {dst : Option Tmp} (hd : ∀ k, dst = some k → k < n) {x : Value} {u : V} (hxu : Rs m w β x u) (hown : ∀ s sz len cs, u = .row s sz len → st.b s = some cs → OwnAt w β x s sz len cs) {t1 t2 : TypeId} {st' : St} (hx : convV E st dst t1 t2 u = some st') :
    ∃ v w' m' β', (convert t1 t2 x).run E.P w = .ok v w' ∧ Rel E n pm m0 w0 m' β' st' (a.put dst v) w' := by
  unfold convV at hx
  split at hx
  · rename_i s b
    split at hx
    · rename_i el h1 h2
      split at hx
      · rename_i h3
        split at hx
        · rename_i hc
          cases hx
          obtain rfl := hxu.x
          have hge := grownCap_ge w b.size 0 el
          have hbs : b.data.size = b.size := rfl
          exact ⟨_, _, _, _, Go.Lib.run_convert_string_bytes w t1 t2 el b h1 h2 h3, h.newB (hd s rfl) hc.1 (T := ⟨el, _, .inr (Nat.le_refl _)⟩) (xs0 := b.data.toList.map fun b => Value.int .u8 b.toNat) (rest0 := List.replicate (grownCap w b.size 0 el - b.size) (.int .u8 0)) (below_bytes w el b) (Go.Lib.bytesWorld_at_new w el b)
            (by simp [Go.Lib.bytesCells]) (bytesV_rdl _) (by rw [List.length_map, Array.length_toList, Nat.mul_one]; exact Nat.le_of_eq hbs.symm) hge (by simp [Go.Lib.bytesCells]; omega) hc.2⟩
        · cases hx
      · cases hx
    · cases hx
  · rename_i s s' len
    split at hx
    · rename_i el cs h1 h2 hcs
      split at hx
      · rename_i l h3 hl
        cases hx
        obtain ⟨hfit, cap, cur, ty, rfl, hh, hsz⟩ := hown s' 1 len cs rfl hcs
        obtain ⟨⟨_, vals, ty0, xs, rest, hh', hvs, hr⟩, _⟩ := h.boxes s' cs hcs
        refine ⟨_, w, m, β, ?_, h.put hd (.of (.x (.string ⟨l.toArray⟩))) (by intros _ _ _ e; cases e) (by intros _ _ _ _ e; cases e) (by intros _ _ _ e; cases e)⟩
        rw [run_convert_bytes_string w t1 t2 el _ _ _ h1 h3 h2]
        exact row_bytes hh' hvs hr (by omega) hl
      · cases hx
    · cases hx
  · cases hx

/-- What names a row of the call's own that may be written: a piece of one. -/
theorem pureV_isrow {op : Op} {e : Operand → V} (hm : isMv op = false) {s sz len : Nat} (h : pureV E op e = some (.row s sz len)) :
    ∃ t x lo hi el len', ∃ k : Int, op = .slice t x lo hi none ∧ E.P.underlying t = some (.slice el) ∧ e x = .row s sz len' ∧ boundV e 0 lo = some 0 ∧ boundV e len' hi = some k ∧ szB E.P el = some sz ∧ 0 ≤ k ∧ k ≤ len' ∧ len = k.toNat := by
  cases op with
  | move x => simp [isMv] at hm
  | assign x => simp [isMv] at hm
  | pick c x y => simp [isMv] at hm
  | extract x i =>
    simp only [pureV] at h
    split at h
    · have := (np_some h).2; simp [V.notPtr] at this
    · simp at h
  | field t x f =>
    simp only [pureV] at h
    split at h
    · obtain ⟨fd, _, h⟩ := Option.bind_eq_some_iff.1 h
      have := (np_some h).2; simp [V.notPtr] at this
    · simp at h
  | binOp op t x y yt =>
    simp only [pureV, binV] at h
    exfalso
    split at h
    · split at h
      · split at h <;> simp at h
      · split at h <;> simp at h
      · split at h
        · simp only [intV] at h
          split at h <;> (try split at h) <;> simp at h
        · simp at h
    · simp only [strV, catV] at h
      split at h <;> (try split at h) <;> simp at h
    · split at h <;> simp at h
    · split at h
      · simp at h
      · split at h <;> simp at h
    · split at h <;> (try split at h) <;> simp at h
    · split at h <;> simp at h
    · split at h <;> simp at h
    · split at h <;> simp at h
    · split at h <;> (try split at h) <;> simp at h
    · simp at h
  | unOp op t x => cases op <;> simp only [pureV] at h <;> (try split at h) <;> simp at h
  | slice t x lo hi mx =>
    cases mx with
    | some y => simp [pureV] at h
    | none =>
      simp only [pureV] at h
      split at h
      · exfalso
        repeat' split at h
        all_goals simp at h
      · exfalso
        repeat' split at h
        all_goals simp at h
      · rename_i el s' sz' len' ht hx
        split at h
        · rename_i l k hl hk
          split at h
          · rename_i hc
            cases h
            obtain ⟨h1, rfl, h2, h3⟩ := hc
            exact ⟨t, x, lo, hi, el, len', k, rfl, ht, hx, hl, hk, h1, h2, h3, rfl⟩
          · cases h
        · cases h
      · cases h
  | call c =>
    obtain ⟨callee, args, ts⟩ := c
    exfalso
    cases callee with
    | value f => simp [pureV] at h
    | invoke r s => simp [pureV] at h
    | builtin b =>
      cases b <;> simp only [pureV] at h <;> (try (simp at h; done))
      all_goals (repeat' split at h)
      all_goals (first | (simp at h; done) | cases h)
  | _ =>
    exfalso
    simp only [pureV, buildV] at h
    repeat' split at h
    all_goals simp at h
/-- Only copies name a map. -/
theorem pureV_ismp {op : Op} {e : Operand → V} (hm : isMv op = false) {s : Nat} {ks vs : List V} (h : pureV E op e = some (.mp s ks vs)) : False := by
  cases op with
  | move x => simp [isMv] at hm
  | assign x => simp [isMv] at hm
  | pick c x y => simp [isMv] at hm
  | extract x i =>
    simp only [pureV] at h
    split at h
    · have := (np_some h).2; simp [V.notPtr] at this
    · simp at h
  | field t x f =>
    simp only [pureV] at h
    split at h
    · obtain ⟨fd, _, h⟩ := Option.bind_eq_some_iff.1 h
      have := (np_some h).2; simp [V.notPtr] at this
    · simp at h
  | binOp op t x y yt =>
    simp only [pureV, binV] at h
    exfalso
    split at h
    · split at h
      · split at h <;> simp at h
      · split at h <;> simp at h
      · split at h
        · simp only [intV] at h
          split at h <;> (try split at h) <;> simp at h
        · simp at h
    · simp only [strV, catV] at h
      split at h <;> (try split at h) <;> simp at h
    · split at h <;> simp at h
    · split at h
      · simp at h
      · split at h <;> simp at h
    · split at h <;> (try split at h) <;> simp at h
    · split at h <;> simp at h
    · split at h <;> simp at h
    · split at h <;> simp at h
    · split at h <;> (try split at h) <;> simp at h
    · simp at h
  | unOp op t x => cases op <;> simp only [pureV] at h <;> (try split at h) <;> simp at h
  | slice t x lo hi mx =>
    cases mx with
    | some y => simp [pureV] at h
    | none =>
      simp only [pureV] at h
      split at h
      · exfalso
        repeat' split at h
        all_goals simp at h
      · exfalso
        repeat' split at h
        all_goals simp at h
      · exfalso
        repeat' split at h
        all_goals simp at h
      · cases h
  | call c =>
    obtain ⟨callee, args, ts⟩ := c
    exfalso
    cases callee with
    | value f => simp [pureV] at h
    | invoke r s => simp [pureV] at h
    | builtin b =>
      cases b <;> simp only [pureV] at h <;> (try (simp at h; done))
      all_goals (repeat' split at h)
      all_goals (first | (simp at h; done) | cases h)
  | _ =>
    exfalso
    simp only [pureV, buildV] at h
    repeat' split at h
    all_goals simp at h
theorem pureV_own (h : Rel E n pm m0 w0 m β st a w) {o : Oper} (hm : isMv o.op = false) {s sz len : Nat} (hu : pureV E o.op (ev E st) = some (.row s sz len)) :
    ∃ v, (execOp a.eval o).run E.P w = .ok (.value v) w ∧ Rs m w β v (.row s sz len) ∧ ∀ cs, st.b s = some cs → OwnAt w β v s sz len cs := by
  obtain ⟨t, x, lo, hi, el, len', k, ho, ht, hx, hl, hk, hsz, h0, hke, rfl⟩ := pureV_isrow hm hu
  obtain ⟨k, rfl⟩ := Int.eq_ofNat_of_zero_le h0
  obtain ⟨ix, rfl, hix⟩ := ev_row h hx
  obtain ⟨cap, hv, hcap⟩ := (hx ▸ ev_sound h (.tmp ix) : Rs m w β (a.eval (.tmp ix)) (.row s sz len')).row
  have hb := bounds_sound (m := m) (w := w) (β := β) (P := E.P) (isS := true) (len := len') (cap := cap) (l := 0) (fun x => ev_sound h x) hl hk (by omega) (by omega)
  refine ⟨.slice (some ⟨β s, 0, none⟩) k cap, ?_, .ofRow _ _ (by omega), fun cs hcs => ?_⟩
  · simp only [execOp, ho, Instr.sliceAt, Sem.run_bind, run_und ht, Result.andThen_ok, Instr.slice, hv, Option.map_none, hb, run_szB hsz, Sem.run_pure]
    congr 2
    cases cap <;> simp [Addr_add_eq]
  · obtain ⟨hf, cap', cur, ty, hv', hh, hs⟩ := h.own ix s sz len' cs hix hcs
    have hv' : a.eval (.tmp ix) = .slice (some ⟨β s, 0, none⟩) len' cap' := hv'
    rw [hv] at hv'
    cases hv'
    exact ⟨Nat.le_trans (Nat.mul_le_mul_right _ (by omega)) hf, cap, cur, ty, rfl, hh, hs⟩

theorem rowV_sound {P : Program} {t : TypeId} {len : Nat} {parts : List (Nat × V)} {vs : List (Nat × Value)} (hm : vs.map (·.1) = parts.map (·.1))
    (hv : ∀ (i : Nat) (x : Nat × Value) (u : Nat × V), vs[i]? = some x → parts[i]? = some u → Rs m w β x.2 u.2) {u : V} (hu : rowV P t len parts = some u) :
    ∃ v w' m', (Instr.buildSlice t len vs.toArray).run P w = .ok v w' ∧ Rd m' w' v u ∧ Below w.heap.size w w' ∧ ∀ blk, blk < w.heap.size → m' blk = m blk := by
  unfold rowV at hu
  split at hu
  · rename_i el ht
    split at hu
    · rename_i n z hsz hz
      split at hu
      · rename_i hc
        obtain ⟨hr, hmax, hp⟩ := hc
        cases hu
        have hp' : ∀ p ∈ parts, p.2.dat = true ∧ p.2.cells.length = n := fun p hpm => by
          have := List.all_eq_true.1 hp p hpm
          simpa using this
        have hlen : parts.length = len := by simpa using congrArg List.length hr
        obtain ⟨zv, hzr, hzd⟩ := zeroB_sound (w := w) (m := m) hz
        let init : Array Value := (Array.range (len * n)).map (fun j => (if len * n = 0 then (#[] : Array Value) else zv.cells)[j % (if len * n = 0 then (#[] : Array Value) else zv.cells).size]!)
        have hinit : init.toList.length = len * n := by simp [init]
        have hf := fillV_row (n := n) parts 0 len (List.replicate (len * n) .undef) (by rw [hr, List.range_eq_range', hlen]) (by omega) (by simp) hp'
        simp only [Nat.zero_mul, List.take_zero, List.nil_append] at hf
        obtain ⟨cs', hcs', hd⟩ := fillV_sound (m := m) (w := w) (β := β) (cs := init) (by have := undefs (m := m) (w := w) init.toList; rwa [hinit] at this) hm hv hf
        have hfl : Flat m w cs'.toList n (parts.map (·.2)) := flat_of_rdl _ _ (fun e he => by
          obtain ⟨p, hpm, rfl⟩ := List.mem_map.1 he
          exact (hp' p hpm).2) (by rw [List.flatMap_map]; exact hd)
        have hrun : (Instr.buildSlice t len vs.toArray).run P w = .ok (.slice (some ⟨w.heap.size, 0, none⟩) len len) (w.alloc (.cells cs' el)) := by
          simp only [Instr.buildSlice, Sem.run_bind, run_und ht, Result.andThen_ok, run_szB hsz]
          rw [if_neg (by omega)]
          by_cases h0 : len * n = 0
          · have hi0 : init = #[] := by apply Array.eq_empty_of_size_eq_zero; rw [← Array.length_toList, hinit, h0]
            rw [hi0] at hcs'
            have e0 : ∀ f : Nat → Value, (Array.range 0).map f = #[] := fun f => by apply Array.toList_inj.1; rw [Array.toList_map, Array.toList_range]; rfl
            simp only [h0, if_true, Sem.run_bind, Sem.run_pure, Result.andThen_ok, e0, hcs', newRow, run_newObj]
            rfl
          · have : (Array.range (len * n)).map (fun j => zv.cells[j % zv.cells.size]!) = init := by simp [init, h0]
            simp only [h0, if_false, Sem.run_bind, hzr, Sem.run_pure, Result.andThen_ok, this, hcs', newRow, run_newObj]
            rfl
        refine ⟨_, _, upd m w.heap.size none, hrun, ?_, (Below.refl _ _).alloc (Nat.le_refl _) _, fun blk hb => upd_ne _ _ (Nat.ne_of_lt hb)⟩
        have := Rd.of_flat (hfl.mono (Ext.fresh0 m w (.cells cs' el) none)) (World.heap_new w _) (fun j x hj => by simpa using hj) (cap := len) (by simp [hlen]) (fun fr hf => by rw [upd_same] at hf; cases hf) none
        rwa [List.length_map, hlen] at this
      · cases hu
    · cases hu
  · cases hu

theorem Rd.not_bx {v : Value} {cs : List V} (h : Rd m w v (.bx cs)) : False := by cases h
theorem slotsP_no {u : V} {l : List V} (hn : ∀ s, u ≠ .ptr s 0) : slotsP (u :: l) = slotsP l := by
  cases u with
  | ptr s off => cases off with
    | zero => exact absurd rfl (hn s)
    | succ off => rfl
  | _ => rfl
theorem Rd.remark {v : Value} {nl : Bool} {sz : Nat} {es : List V} {k : Nat} (h : Rd m w v (.sl nl sz es (some k))) (d : Nat) : Rd m w v (.sl nl sz es (some d)) := by
  cases h with
  | nil sz tok => exact .nil _ _
  | sl blk off cap _ _ _ c hb hcap hsz hc hm hr => exact .sl blk off cap sz es _ c hb hcap hsz hc hm hr
theorem marksP_no {u : V} {l : List V} (hn : ∀ nl sz es k, u ≠ .sl nl sz es (some k)) : marksP (u :: l) = marksP l := by
  cases u with
  | sl nl sz es tok => cases tok with
    | none => rfl
    | some k => exact absurd rfl (hn _ _ _ k)
  | _ => rfl
theorem mapsP_no {u : V} {l : List V} (hn : ∀ s ks vs, u ≠ .mp s ks vs) : mapsP (u :: l) = mapsP l := by
  cases u <;> first | rfl | exact absurd rfl (hn _ _ _)
theorem datP_of {v : Value} {u : V} (h : Rs m w β v u.bare) (hno : ∀ s ks vs, u ≠ .mp s ks vs) (hd : u.bare.datP = true) : u.bare.dat = true := by
  unfold V.datP at hd
  split at hd
  · rename_i cs e
    rw [e] at h
    rcases h with h | ⟨_, _, h, _⟩ | ⟨_, _, _, _, h, _⟩ | ⟨_, _, _, h, _⟩
    · exact h.not_bx.elim
    · cases h
    · cases h
    · cases h
  · rename_i nl sz es k e
    rw [bare_eq] at e
    cases u <;> cases e
  · rename_i e
    rw [bare_eq] at e
    cases u <;> first | exact absurd rfl (hno _ _ _) | cases e
  · exact hd
theorem args_P (h : Rel E n pm m0 w0 m β st a w) {ρ : Nat → Nat} (hrw : Rows E m pm w0 w β st (fun i => a.tmps.getD i Go.undef) ρ) (hK : E.K ≤ w0.heap.size) : ∀ (l : List Operand), ((l.map (ev E st)).map (argP st.b)).all V.datP = true → (marksP (l.map (ev E st))).Nodup →
    ∃ gs, ArgsP m w E.K (l.map a.eval) ((l.map (ev E st)).map (argP st.b)) ((slotsP (l.map (ev E st))).map β) gs ((mapsP (l.map (ev E st))).map β) ∧ (∀ s ∈ slotsP (l.map (ev E st)), ∃ cs, st.b s = some cs) ∧ gs.Nodup ∧
      ∀ g ∈ gs, ∃ k ∈ marksP (l.map (ev E st)), ∃ v sz es, Bear E w β st (fun i => a.tmps.getD i Go.undef) v (.sl false sz es (some k)) ∧ g = ρ k
  | [], _, _ => ⟨[], .nil, by simp [slotsP], List.nodup_nil, fun g hg => by cases hg⟩
  | x :: l, hd, hn => by
    simp only [List.map_cons, List.all_cons, Bool.and_eq_true] at hd hn ⊢
    have hx := ev_sound h x
    have htok : ∀ sz es k, ev E st x = .sl false sz es (some k) → Bear E w β st (fun i => a.tmps.getD i Go.undef) (a.eval x) (.sl false sz es (some k)) := fun sz es k e => by
      obtain ⟨i, rfl, hi⟩ := ev_tok e
      exact .inl ⟨i, hi, rfl⟩
    have hmp : ∀ s ks vs, ev E st x = .mp s ks vs → ∃ i, x = .tmp i ∧ st.t i = .mp s ks vs := fun s ks vs e => ev_mp h e
    have h1 := hd.1
    have hn1 : (marksP (l.map (ev E st))).Nodup := by
      generalize ev E st x = u at hn
      cases u with
      | sl nl sz es tok => cases tok with
        | none => exact hn
        | some k => exact (List.nodup_cons.1 hn).2
      | _ => exact hn
    obtain ⟨gs, ih, ihd, ihn, ihm⟩ := args_P h hrw hK l hd.2 hn1
    generalize ev E st x = u at hx h1 hn htok hmp ⊢
    have plain : (∀ s, u ≠ .ptr s 0) → (∀ nl sz es k, u ≠ .sl nl sz es (some k)) → (∀ s ks vs, u ≠ .mp s ks vs) → argP st.b u = u.bare → ∃ gs, ArgsP m w E.K (a.eval x :: l.map a.eval) (argP st.b u :: (l.map (ev E st)).map (argP st.b)) ((slotsP (u :: l.map (ev E st))).map β) gs ((mapsP (u :: l.map (ev E st))).map β) ∧ (∀ s ∈ slotsP (u :: l.map (ev E st)), ∃ cs, st.b s = some cs) ∧ gs.Nodup ∧
        ∀ g ∈ gs, ∃ k ∈ marksP (u :: l.map (ev E st)), ∃ v sz es, Bear E w β st (fun i => a.tmps.getD i Go.undef) v (.sl false sz es (some k)) ∧ g = ρ k := fun hn2 hm2 hm3 e1 => by
      rw [slotsP_no hn2, marksP_no hm2, mapsP_no hm3, e1]
      rw [e1] at h1
      have hdd := datP_of hx.bare hm3 h1
      exact ⟨gs, .dat (hx.bare.dat hdd) hdd ih, ihd, ihn, ihm⟩
    have keep : ∀ (k : Nat), (∀ g ∈ gs, ∃ k ∈ marksP (l.map (ev E st)), ∃ v sz es, Bear E w β st (fun i => a.tmps.getD i Go.undef) v (.sl false sz es (some k)) ∧ g = ρ k) → ∀ g ∈ gs, ∃ k' ∈ k :: marksP (l.map (ev E st)), ∃ v sz es, Bear E w β st (fun i => a.tmps.getD i Go.undef) v (.sl false sz es (some k')) ∧ g = ρ k' :=
      fun k hm g hg => by obtain ⟨k', h2, h3⟩ := hm g hg; exact ⟨k', List.mem_cons_of_mem _ h2, h3⟩
    cases u with
    | ptr s off =>
      cases off with
      | succ off => exact plain (fun s e => by cases e) (fun nl sz es k e => by cases e) (fun s ks vs e => by cases e) rfl
      | zero =>
        simp only [argP] at h1 ⊢
        cases hs : st.b s with
        | none => rw [hs] at h1; cases h1
        | some cs =>
          obtain ⟨hbx, hge⟩ := h.boxes s cs hs
          rw [hx.ptr]
          refine ⟨gs, .bx hbx ?_ ih, fun s' hs' => ?_, ihn, ihm⟩
          · rcases hge with hge | hge
            · exact Nat.le_trans hK hge
            · exact h.par.2.2 _ hge
          · simp only [slotsP, List.mem_cons] at hs'
            rcases hs' with rfl | hs'
            · exact ⟨cs, hs⟩
            · exact ihd s' hs'
    | sl nl sz es tok =>
      have hrd := hx.rd rfl
      cases nl with
      | true =>
        rcases hrd.flat with ⟨_, hxv, _⟩ | ⟨hf, _⟩ | ⟨_, _, _, _, hf, _⟩
        · rw [hxv]
          cases tok with
          | none => exact ⟨gs, .no ih, ihd, ihn, ihm⟩
          | some k => exact ⟨gs, .no ih, ihd, ihn, keep k ihm⟩
        · cases hf
        · cases hf
      | false =>
        cases tok with
        | none => exact plain (fun s e => by cases e) (fun nl sz es k e => by cases e) (fun s ks vs e => by cases e) (bare_sl _ _ _ _).symm
        | some k =>
          have hb := htok sz es k rfl
          obtain ⟨lo, lim, is⟩ := hrw.row _ _ _ _ hb
          have hkn := List.nodup_cons.1 (show (k :: marksP (l.map (ev E st))).Nodup from hn)
          have hrd0 : Rd m w (a.eval x) (.sl false sz es (some 0)) := hrd.remark 0
          refine ⟨ρ k :: gs, .row hrd0 ⟨lim, is⟩ ?_ ih, ihd, List.nodup_cons.2 ⟨fun hm2 => ?_, ihn⟩, fun g hg => ?_⟩
          · rcases lo with lo | lo
            · exact Nat.le_trans hK lo
            · exact h.par.2.2 _ (h.mold.2.2 _ lo)
          · obtain ⟨k', hk1, v', sz', es', hb', he⟩ := ihm _ hm2
            exact hkn.1 (hrw.sep _ _ _ _ _ _ _ _ hb hb' he ▸ hk1)
          · rcases List.mem_cons.1 hg with rfl | hg
            · exact ⟨k, by simp [marksP], _, _, _, hb, rfl⟩
            · exact keep k ihm g hg
    | mp s ks vs =>
      obtain ⟨i, rfl, hi⟩ := hmp s ks vs rfl
      obtain ⟨h2, hge⟩ := h.maps.holds i s ks vs hi
      rw [hx.mp]
      refine ⟨gs, .mp h2 ?_ ih, ihd, ihn, ihm⟩
      rcases hge with hge | hge
      · exact Nat.le_trans hK hge
      · exact h.par.2.2 _ hge
    | _ => exact plain (fun s e => by cases e) (fun nl sz es k e => by cases e) (fun s ks vs e => by cases e) rfl
theorem maps_P (h : Rel E n pm m0 w0 m β st a w) : ∀ (l : List Operand), ∀ s ∈ mapsP (l.map (ev E st)), ∃ i ks vs, st.t i = .mp s ks vs
  | [], s, hs => by cases hs
  | x :: l, s, hs => by
    have hmp : ∀ s ks vs, ev E st x = .mp s ks vs → ∃ i, x = .tmp i ∧ st.t i = .mp s ks vs := fun s ks vs e => ev_mp h e
    simp only [List.map_cons] at hs
    generalize ev E st x = u at hs hmp
    cases u with
    | mp s' ks vs =>
      rcases List.mem_cons.1 (show s ∈ s' :: mapsP (l.map (ev E st)) from hs) with rfl | hs
      · obtain ⟨i, _, hi⟩ := hmp _ _ _ rfl
        exact ⟨i, ks, vs, hi⟩
      · exact maps_P h l s hs
    | _ => exact maps_P h l s (by rwa [mapsP_no (fun _ _ _ e => by cases e)] at hs)
theorem nodup_mapM (h : Rel E n pm m0 w0 m β st a w) : ∀ {ss : List Nat}, ss.Nodup → (∀ s ∈ ss, ∃ i ks vs, st.t i = .mp s ks vs) → (ss.map β).Nodup
  | [], _, _ => List.nodup_nil
  | s :: ss, hn, hd => by
    rw [List.nodup_cons] at hn
    rw [List.map_cons, List.nodup_cons]
    refine ⟨fun hm => ?_, nodup_mapM h hn.2 (fun s' hs' => hd s' (by simp [hs']))⟩
    obtain ⟨s', h1, h2⟩ := List.mem_map.1 hm
    obtain ⟨i, _, _, hc⟩ := hd s (by simp)
    obtain ⟨j, _, _, hc'⟩ := hd s' (by simp [h1])
    exact hn.1 (h.maps.inj _ _ _ _ _ _ _ _ hc' hc h2 ▸ h1)
theorem stripL_mp {ks : List Nat} {t : Nat → V} {i s : Nat} {k v : List V} : stripL ks t i = .mp s k v ↔ t i = .mp s k v := by
  induction ks with
  | nil => exact Iff.rfl
  | cons q ks ih =>
    rw [← ih]
    show stripV q (stripL ks t i) = _ ↔ _
    rw [stripV_eq]
    generalize stripL ks t i = u
    cases u with
    | sl nl sz es tok => cases tok <;> simp [strip0]
    | _ => exact Iff.rfl
theorem putMs_is : ∀ {ms : List Nat} {rest : List (List V)} {t t' : Nat → V}, putMs t ms rest = some t' → ∀ i, (t' i = t i ∧ ∀ s ks vs, t i = .mp s ks vs → s ∉ ms) ∨
    ∃ (j s : Nat) (ks vs : List V), ms[j]? = some s ∧ (∃ k, rest[j]? = some [.mp k ks vs]) ∧ (∃ ks0 vs0, t i = .mp s ks0 vs0) ∧ t' i = .mp s ks vs
  | [], [], t, t', h, i => by cases h; exact .inl ⟨rfl, fun _ _ _ _ => by simp⟩
  | [], _ :: _, t, t', h, i => by cases h
  | s :: ms, [], t, t', h, i => by cases h
  | s :: ms, c :: rest, t, t', h, i => by
    have hc : ∃ k ks vs, c = [.mp k ks vs] := by
      unfold putMs at h
      split at h
      · rename_i e _; cases e
      · rename_i k ks vs cs _ e
        exact ⟨k, ks, vs, (List.cons.inj e).1⟩
      · cases h
    obtain ⟨k, ks, vs, rfl⟩ := hc
    have h : putMs (mapw s ks vs t) ms rest = some t' := h
    rcases putMs_is h i with ⟨h1, h2⟩ | ⟨j, s', ks', vs', h1, h2, ⟨k0, v0, h3⟩, h4⟩
    · by_cases hs : ∃ ks0 vs0, t i = .mp s ks0 vs0
      · obtain ⟨ks0, vs0, h5⟩ := hs
        refine .inr ⟨0, s, ks, vs, rfl, ⟨k, rfl⟩, ⟨ks0, vs0, h5⟩, ?_⟩
        rw [h1]
        show mapwV s ks vs (t i) = _
        rw [h5, mapwV_eq]
        exact if_pos rfl
      · rcases mapwV_is s ks vs (t i) with e | ⟨e, _⟩
        · have e : mapw s ks vs t i = t i := e
          rw [e] at h1 h2
          refine .inl ⟨h1, fun s' ks' vs' h5 hm => ?_⟩
          rcases List.mem_cons.1 hm with rfl | hm
          · exact hs ⟨_, _, h5⟩
          · exact h2 _ _ _ h5 hm
        · exact absurd e hs
    · refine .inr ⟨j + 1, s', ks', vs', by simpa using h1, by simpa using h2, ?_, h4⟩
      have h3 : mapwV s ks vs (t i) = _ := h3
      rcases mapwV_is s ks vs (t i) with e | ⟨⟨k1, v1, e1⟩, e⟩
      · exact ⟨_, _, e ▸ h3⟩
      · rw [e] at h3
        cases h3
        exact ⟨_, _, e1⟩
theorem nodup_map (h : Rel E n pm m0 w0 m β st a w) : ∀ {ss : List Nat}, ss.Nodup → (∀ s ∈ ss, ∃ cs, st.b s = some cs) → (ss.map β).Nodup
  | [], _, _ => List.nodup_nil
  | s :: ss, hn, hd => by
    rw [List.nodup_cons] at hn
    rw [List.map_cons, List.nodup_cons]
    refine ⟨fun hm => ?_, nodup_map h hn.2 (fun s' hs' => hd s' (by simp [hs']))⟩
    obtain ⟨s', h1, h2⟩ := List.mem_map.1 hm
    obtain ⟨c, hc⟩ := hd s (by simp)
    obtain ⟨c', hc'⟩ := hd s' (by simp [h1])
    exact hn.1 (h.inj _ _ _ _ hc' hc h2 ▸ h1)
theorem load_bear (h : Rel E n pm m0 w0 m β st a w) {s0 off : Nat} {cs : List V} (hcs : st.b s0 = some cs) (hM : E.MB s0 = true) {p : Value} (hp : p = .pointer (some ⟨β s0, off, none⟩)) {t : TypeId} {v : Value} {sz : Nat} {es : List V} {s : Nat}
    (hu : (match E.MB s0, aggB E.P t with
      | true, some true => partV E.P t (cs.map V.pc) off
      | _, _ => partV E.P t cs off) = some (.sl false sz es (some s))) (hr : (Instr.loadAt t p).run E.P w = .ok v w) : Bear E w β st (fun i => a.tmps.getD i Go.undef) v (.sl false sz es (some s)) := by
  rw [hM] at hu
  unfold partV at hu
  cases ha : aggB E.P t with
  | none => simp [ha] at hu
  | some b =>
    cases hs : szB E.P t with
    | none => cases b <;> simp [ha, hs] at hu
    | some k =>
      cases b with
      | true =>
        simp only [ha, hs] at hu
        split at hu <;> cases hu
      | false =>
        simp only [ha, hs] at hu
        refine .inr ⟨s0, cs, off, hM, hcs, hu, ?_⟩
        obtain ⟨⟨_, vals, ty, xs, rest, hh, hvs, hrl⟩, _⟩ := h.boxes _ _ hcs
        have hlt := lt_of_some hu
        rw [← hrl.length] at hlt
        have hcell : w.cell? ⟨β s0, off, none⟩ = some xs[off] := by
          rw [Box.cell hh, ← Array.getElem?_toList, hvs, List.getElem?_append_left hlt]
          exact List.getElem?_eq_getElem hlt
        subst hp
        simp only [Instr.loadAt, Instr.sureAddr, loadVar, Sem.run_bind, Sem.run_pure, Result.andThen_ok, run_aggB ha, Bool.false_eq_true, if_false, run_load, hcell] at hr
        cases hr
        exact hcell
theorem Rel.strippedL (h : Rel E n pm m0 w0 m β st a w) {ρ : Nat → Nat} (hrw : Rows E m pm w0 w β st (fun i => a.tmps.getD i Go.undef) ρ) : ∀ ks : List Nat,
    Rel E n pm m0 w0 m β ⟨stripL ks st.t, stripBL E ks st.b⟩ a w ∧ Rows E m pm w0 w β ⟨stripL ks st.t, stripBL E ks st.b⟩ (fun i => a.tmps.getD i Go.undef) ρ ∧
      (∀ v sz es s, Bear E w β ⟨stripL ks st.t, stripBL E ks st.b⟩ (fun i => a.tmps.getD i Go.undef) v (.sl false sz es (some s)) → Bear E w β st (fun i => a.tmps.getD i Go.undef) v (.sl false sz es (some s)) ∧ s ∉ ks) ∧
      ∀ s, (∃ cs, stripBL E ks st.b s = some cs) ↔ ∃ cs, st.b s = some cs
  | [] => ⟨h, hrw, fun v sz es s hi => ⟨hi, by simp⟩, fun s => Iff.rfl⟩
  | k :: ks => by
    obtain ⟨h1, h2, h3, h4⟩ := h.strippedL hrw ks
    have hB : ∀ v sz es s, Bear E w β ⟨strip k (stripL ks st.t), stripB E k (stripBL E ks st.b)⟩ (fun i => a.tmps.getD i Go.undef) v (.sl false sz es (some s)) → Bear E w β ⟨stripL ks st.t, stripBL E ks st.b⟩ (fun i => a.tmps.getD i Go.undef) v (.sl false sz es (some s)) ∧ s ≠ k := fun v sz es s hi => hi.stripped (st := ⟨stripL ks st.t, stripBL E ks st.b⟩)
    refine ⟨h1.stripped k, h2.to (fun v sz es s hi => (hB v sz es s hi).1) (fun _ _ _ _ _ => ⟨rfl, rfl⟩) (fun v sz es s k' c hi hk => ?_), fun v sz es s hi => ?_, fun s => ?_⟩
    · obtain ⟨_, hc, _⟩ := stripB_is hk
      exact h2.box _ _ _ _ _ _ hi hc
    · obtain ⟨q1, q2⟩ := hB v sz es s hi
      obtain ⟨q3, q4⟩ := h3 v sz es s q1
      exact ⟨q3, by simp [q2, q4]⟩
    · rw [← h4 s]
      constructor
      · rintro ⟨cs, hs⟩
        obtain ⟨c, hc, _⟩ := stripB_is hs
        exact ⟨c, hc⟩
      · rintro ⟨cs, hs⟩
        obtain ⟨c, hc, _⟩ := stripB_of (E := E) (k := k) hs
        exact ⟨c, hc⟩
/-- What a call answers, put away. -/
theorem EnvX.res (_hE : EnvX E pm) {d : Option Tmp} (hd : ∀ k, d = some k → k < n) {r : V} {v : Value} (hv : Rd m w v r) (h : Rel E n pm m0 w0 m β st a w) {ρ : Nat → Nat} (hrw : Rows E m pm w0 w β st (fun i => a.tmps.getD i Go.undef) ρ)
    (ho : ∀ sz es k, r = .sl false sz es (some k) → ∃ g, RowIs m w v g sz es.length ∧ (w0.heap.size ≤ g ∨ g ∈ pm.Y) ∧ (∀ v sz es s, Bear E w β st (fun i => a.tmps.getD i Go.undef) v (.sl false sz es (some s)) → ρ s ≠ g) ∧ ∀ s cs, st.b s = some cs → β s ≠ g)
    {K : Act → World → Prop} (hK : ∀ a' w' m' β', Rel E n pm m0 w0 m' β' (resP E st d r) a' w' → K a' w') : K (a.put d v) w := by
  have plain : resP E st d r = st.put d r.bare → K (a.put d v) w := fun e => by
    refine hK _ _ m β ?_
    rw [e]
    exact h.put hd (.of hv.bare) (bare_tok _) (fun s sz len cs e => by have e : r.bare = _ := e; exact (e ▸ hv.bare).not_row.elim) (fun s ks vs e => by have e : r.bare = _ := e; exact (e ▸ hv.bare).not_mp.elim)
  cases d with
  | none => exact plain (by unfold resP; rfl)
  | some d =>
    cases r with
    | sl nl sz es tok =>
      cases tok with
      | none => exact plain rfl
      | some k =>
        refine hK _ _ m β ?_
        show Rel E n pm m0 w0 m β ⟨upd (strip d st.t) d (.sl nl sz es (some d)), stripB E d st.b⟩ (a.put (some d) v) w
        have hrd : Rd m w v (.sl nl sz es (some d)) := hv.remark d
        cases nl with
        | true => exact (h.stripped d).put (d := some d) hd (.of hrd) (fun sz es s e => by cases e) (fun s sz len cs e => by cases e) (fun s ks vs e => by cases e)
        | false =>
          obtain ⟨g, ⟨hl, his⟩, hlo, hf, hbx⟩ := ho sz es k rfl
          have hg := h.grown hrw (d := d) (k := d) (g' := g) (sz := sz) (es' := es) (hd d rfl) (Ext.refl m w) h.below (fun _ _ _ => ⟨rfl, rfl⟩) ⟨hlo, hl, his⟩ hrd
            (fun v0 sz0 es0 s hi' => hf _ _ _ _ (Bear.stripped (Bear.stripped (st := ⟨strip d st.t, stripB E d st.b⟩) hi').1).1) hbx (fun e c h' => by obtain ⟨_, _, _, _, hh, _⟩ := his; rw [hh] at h'; cases h')
          rw [strip_strip, stripB_strip] at hg
          exact hg
    | _ => exact plain rfl
/-- A row that the text writes out, and that may grow. -/
theorem litR_sound (hE : EnvX E pm) (h : Rel E n pm m0 w0 m β st a w) {dst : Option Tmp} (hd : ∀ k, dst = some k → k < n) {t : TypeId} {len : Nat} {parts : List (Nat × V)} {vs : List (Nat × Value)} (hm : vs.map (·.1) = parts.map (·.1))
    (hv : ∀ (i : Nat) (x : Nat × Value) (u : Nat × V), vs[i]? = some x → parts[i]? = some u → Rs m w β x.2 u.2) {st' : St} (hx : litR E st dst t len parts = some st') {K : Act → World → Prop} (hK : ∀ a' w' m' β', Rel E n pm m0 w0 m' β' st' a' w' → K a' w') :
    ∃ v w', (Instr.buildSlice t len vs.toArray).run E.P w = .ok v w' ∧ K (a.put dst v) w' := by
  unfold litR at hx
  split at hx
  case h_2 => cases hx
  rename_i d el ht
  split at hx
  case h_2 => cases hx
  rename_i k z hsz hz
  split at hx
  case isFalse => cases hx
  rename_i hc
  cases hx
  obtain ⟨hr, hmax, hp⟩ := hc
  obtain ⟨cs', hrun, hrd, hlen⟩ := row_run (m := m) (w := w) (β := β) hm hv ht hsz hz hr hmax hp
  obtain ⟨ρ, hrw⟩ := h.rows
  have hul : parts.length = len := by have := congrArg List.length hr; simpa using this
  have hp' : ∀ p ∈ parts, p.2.dat = true ∧ p.2.cells.length = k := fun p hpm => by
    have := List.all_eq_true.1 hp p hpm
    simpa using this
  refine ⟨_, _, hrun, ?_⟩
  have hb : Below w.heap.size w (w.alloc (.cells cs' el)) := (Below.refl _ w).alloc (Nat.le_refl _) _
  have hmm : ∀ blk, blk < w.heap.size → (upd m w.heap.size (some (len * k))) blk = m blk := fun blk hb => upd_ne _ _ (Nat.ne_of_lt hb)
  have hc := h.call hb hmm
  have hnew : (w.alloc (.cells cs' el)).heap[w.heap.size]? = some (.cells cs' el (0, 0)) := World.heap_new w _
  have hbox : ∀ s cs, st.b s = some cs → β s < w.heap.size := fun s cs hs => by
    obtain ⟨⟨_, _, _, _, _, hh, _⟩, _⟩ := h.boxes s cs hs
    exact heap_lt hh
  have hB : ∀ v sz es s, Bear E (w.alloc (.cells cs' el)) β st (fun i => a.tmps.getD i Go.undef) v (.sl false sz es (some s)) → Bear E w β st (fun i => a.tmps.getD i Go.undef) v (.sl false sz es (some s)) := fun v sz es s hi =>
    hi.from (fun i hi => .inl ⟨i, hi, rfl⟩) (fun k cs j h1 h2 h3 h4 => by
      rw [cell_block (hb.block _ (hbox k cs h2))] at h4
      exact .inr ⟨k, cs, j, h1, h2, h3, h4⟩)
  have hrl : ∀ v sz es s, Bear E w β st (fun i => a.tmps.getD i Go.undef) v (.sl false sz es (some s)) → ρ s < w.heap.size := fun v sz es s hi => by
    obtain ⟨_, _, _, _, _, _, hh, _⟩ := hrw.row _ _ _ _ hi
    exact heap_lt hh
  have hrw' := hrw.to (m' := upd m w.heap.size (some (len * k))) hB (fun v sz es s hi => ⟨hb.block _ (hrl _ _ _ _ hi), hmm _ (hrl _ _ _ _ hi)⟩) (fun v sz es s k cs hi hk => hrw.box _ _ _ _ _ _ hi hk)
  have hfl : Flat m w cs'.toList k (parts.map (·.2)) := flat_of_rdl _ _ (fun e he => by
    obtain ⟨p, hpm, rfl⟩ := List.mem_map.1 he
    exact (hp' p hpm).2) (by rw [List.flatMap_map]; exact hrd)
  have hv' : Rd (upd m w.heap.size (some (len * k))) (w.alloc (.cells cs' el)) (.slice (some ⟨w.heap.size, 0, none⟩) len len) (.sl false k (parts.map (·.2)) (some 0)) := by
    have := Rd.of_flat (hfl.mono (Ext.fresh0 m w (.cells cs' el) (some (len * k)))) hnew (fun j x hj => by simpa using hj) (cap := len) (by rw [List.length_map, hul]; exact Nat.le_refl _) (fun fr hf => by rw [upd_same] at hf; cases hf; rw [List.length_map, hul]; exact Nat.le_refl _) (some 0)
    rwa [List.length_map, hul] at this
  have hcs : cs'.size = len * k := by
    have h1 := hrd.length
    rw [hlen] at h1
    simpa using h1
  refine EnvX.res hE (d := some d) hd hv' hc hrw' (fun sz es j e => ?_) hK
  cases e
  refine ⟨w.heap.size, ⟨by rw [List.length_map, hul]; exact upd_same _ _ _, len, cs', el, by rw [List.length_map, hul], hnew, by rw [List.length_map, hul]; exact Nat.le_refl _, hcs⟩, .inl h.below.size, fun v sz es s hi e => ?_, fun s cs hs e => ?_⟩
  · have := hrl _ _ _ _ (hB _ _ _ _ hi); omega
  · have := hbox s cs hs; omega
theorem keyOK_nm {P : Program} {t : TypeId} {u : V} (h : keyOK P t u = true) : u.nm = none := by
  simp only [keyOK, Bool.and_eq_true] at h
  cases u <;> first | rfl | (simp [plainK] at h)
theorem lookV_nm {P : Program} {t : TypeId} {m k u : V} {ok : Bool} (h : lookV P t m k ok = some u) : k.nm = none := by
  unfold lookV at h
  split at h
  · split at h
    · rename_i hk; exact keyOK_nm hk
    · cases h
  · cases h
/-- Behind a call that was handed addresses, rows, maps: whatever it made of them is told. -/
theorem callP_sound (hE : EnvX E pm) (h : Rel E n pm m0 w0 m β st a w) {dst : Option Tmp} (hd : ∀ k, dst = some k → k < n) {ρ : Nat → Nat} (hrw : Rows E m pm w0 w β st (fun i => a.tmps.getD i Go.undef) ρ) {F : List V → Option (V × List (List V))} {us : List V} {st' : St} (hx : callP E st dst F us = some st') {gs : List Nat}
    (hdom : ∀ s ∈ slotsP us, ∃ cs, st.b s = some cs) (hgn : gs.Nodup) (hgm : ∀ g ∈ gs, ∃ k ∈ marksP us, ∃ v sz es, Bear E w β st (fun i => a.tmps.getD i Go.undef) v (.sl false sz es (some k)) ∧ g = ρ k) (hdomM : ∀ s ∈ mapsP us, ∃ i ks vs, st.t i = .mp s ks vs)
    {K : Act → World → Prop} (hK : ∀ a' w' m' β', Rel E n pm m0 w0 m' β' st' a' w' → K a' w') : ∃ r outs, F (us.map (argP st.b)) = some (r, outs) ∧ ((slotsP us).map β ++ gs).Nodup ∧ ((mapsP us).map β).Nodup ∧
      ∀ v w' m', Rd m' w' v r → Bel ((slotsP us).map β ++ (gs ++ (mapsP us).map β)) w w' → Ext m w m' w' → (∀ blk, blk < w.heap.size → blk ∉ gs → m' blk = m blk) → (∃ o1 o2, outs = o1 ++ o2 ∧ OutsP m' w' ((slotsP us).map β) o1 ∧ OutsM m' w' ((mapsP us).map β) o2) →
        (∀ sz es k, r = .sl false sz es (some k) → ∃ g, RowIs m' w' v g sz es.length ∧ (w.heap.size ≤ g ∨ g ∈ gs)) → K (a.put dst v) w' := by
  unfold callP at hx
  split at hx
  · rename_i hcond
    split at hx
    · rename_i r outs hr
      split at hx
      · rename_i b' rest hnp hput
        split at hx
        case h_2 => cases hx
        rename_i t' hmbS hputM
        cases hx
        obtain ⟨hd1, hd2, hd3, hd5⟩ := hcond
        have hbg : ∀ s cs, st.b s = some cs → β s ∉ gs := fun s cs hs hm2 => by
          obtain ⟨k, _, v, sz, es, hb, he⟩ := hgm _ hm2
          exact hrw.box _ _ _ _ _ _ hb hs he
        have hnd : ((slotsP us).map β ++ gs).Nodup := List.nodup_append.2 ⟨nodup_map h hd2 hdom, hgn, fun x hx1 y hy e => by
          subst e
          obtain ⟨s, h1, rfl⟩ := List.mem_map.1 hx1
          obtain ⟨cs, hs⟩ := hdom s h1
          exact hbg s cs hs hy⟩
        refine ⟨r, outs, hr, hnd, nodup_mapM h hd5 hdomM, ?_⟩
        rintro v w' m' hv hb hext hm ⟨o1, o2, ho12, ho, hoM⟩ hown
        obtain ⟨hS, hSr, hSb, hSc⟩ := h.strippedL hrw (marksP us)
        have hgY : ∀ g ∈ gs, w0.heap.size ≤ g ∨ g ∈ pm.Y := fun g hg => by
          obtain ⟨k, _, v, sz, es, hb, rfl⟩ := hgm _ hg
          exact (hrw.row _ _ _ _ hb).lo
        have hfree : ∀ v sz es s, Bear E w β ⟨stripL (marksP us) st.t, stripBL E (marksP us) st.b⟩ (fun i => a.tmps.getD i Go.undef) v (.sl false sz es (some s)) → ρ s ∉ gs := fun v sz es s hi hm2 => by
          obtain ⟨k, hk1, v', sz', es', hb', he⟩ := hgm _ hm2
          obtain ⟨h1, h2⟩ := hSb _ _ _ _ hi
          exact h2 (hrw.sep _ _ _ _ _ _ _ _ h1 hb' he ▸ hk1)
        obtain ⟨hU, hUb⟩ := hS.unmap (mapsP us)
        have hUr := hSr.to hUb (fun v sz es s hi => ⟨rfl, rfl⟩) (fun v sz es s k c hi hk => hSr.box _ _ _ _ _ _ hi hk)
        have ho1l := ho.len
        rw [List.length_map] at ho1l
        obtain ⟨o1', ho1e, ho1n⟩ := putP_rest hput
        obtain ⟨rfl, rfl⟩ := List.append_inj (ho12.symm.trans ho1e) (ho1l.trans ho1n.symm)
        have hmpS : ∀ s ∈ mapsP us, ∃ i ks vs, stripL (marksP us) st.t i = .mp s ks vs := fun s hs => by
          obtain ⟨i, ks, vs, hi⟩ := hdomM s hs
          exact ⟨i, ks, vs, stripL_mp.2 hi⟩
        obtain ⟨hC0, hCr0, hCb0, hCs⟩ := hU.callP hUr (fun s hs => by obtain ⟨cs, h1⟩ := hdom s hs; exact (hSc s).2 ⟨cs, h1⟩) hb hext hm ho (fun i c hc hi => by rw [ho12, List.getElem?_append_left (by omega)] at hc; exact hc) hput (okMB_is hmbS) (fun v sz es s hi => hfree _ _ _ _ (hUb _ _ _ _ hi)) (fun s cs hs => by obtain ⟨c0, h1⟩ := (hSc s).1 ⟨cs, hs⟩; exact hbg s c0 h1) hgY (fun g hg => by
          obtain ⟨k, _, v, sz, es, hb, rfl⟩ := hgm _ hg
          obtain ⟨_, _, _, _, _, _, hh, _⟩ := hrw.row _ _ _ _ hb
          exact ⟨_, _, _, hh⟩) (fun g hg => by
          obtain ⟨s, h1, rfl⟩ := List.mem_map.1 hg
          obtain ⟨i, ks, vs, hi⟩ := hdomM s h1
          exact (h.maps.holds i s ks vs hi).2) (fun g hg => by
          obtain ⟨s, h1, rfl⟩ := List.mem_map.1 hg
          obtain ⟨i, ks, vs, hi⟩ := hdomM s h1
          obtain ⟨⟨e, c, hh, _⟩, _⟩ := h.maps.holds i s ks vs hi
          exact ⟨e, c, hh⟩) (fun i s ks vs hi hm2 => by
          have hi : killM0 _ (stripL (marksP us) st.t i) = _ := hi
          obtain ⟨s', h1, h2⟩ := List.mem_map.1 hm2
          obtain ⟨i', ks', vs', hi'⟩ := hmpS s' h1
          rcases killM0_is (mapsP us) (stripL (marksP us) st.t i) with ⟨e, hn2⟩ | ⟨e, _⟩
          · rw [e] at hi
            exact hn2 _ _ _ hi (hS.maps.inj _ _ _ _ _ _ _ _ hi' hi h2 ▸ h1)
          · rw [e] at hi; cases hi)
        have hkr : ∀ i s ks vs, killRs (slotsP us) (stripL (marksP us) st.t) i = .mp s ks vs → stripL (marksP us) st.t i = .mp s ks vs := fun i s ks vs hi => by
          have hi : killRV _ _ = _ := hi
          rcases killRV_is (slotsP us) (stripL (marksP us) st.t i) with ⟨e, _⟩ | e
          · rw [← e]; exact hi
          · rw [e] at hi; cases hi
        have hnm : ∀ i s ks vs, t' i = .mp s ks vs → ∃ ks0 vs0, stripL (marksP us) st.t i = .mp s ks0 vs0 := fun i s ks vs hi => by
          rcases putMs_is hputM i with ⟨h1, _⟩ | ⟨j, s', ks', vs', _, _, ⟨k0, v0, h3⟩, h4⟩
          · exact ⟨_, _, hkr _ _ _ _ (h1 ▸ hi)⟩
          · rw [h4] at hi
            cases hi
            exact ⟨_, _, hkr _ _ _ _ h3⟩
        obtain ⟨hC, hCr, hCb1⟩ := hC0.remap hCr0 (t2 := t') (fun i => by
          rcases putMs_is hputM i with ⟨h1, h2⟩ | ⟨j, s, ks, vs, h1, ⟨k, h2⟩, ⟨k0, v0, h3⟩, h4⟩
          · left
            rw [h1]
            show killRV _ _ = killRV _ (killM0 _ _)
            rcases killM0_is (mapsP us) (stripL (marksP us) st.t i) with ⟨e, _⟩ | ⟨_, s, ks, vs, e, hs⟩
            · rw [e]
            · refine absurd hs (h2 s ks vs ?_)
              show killRV _ _ = _
              rw [e, killRV_eq]
              rfl
          · right
            have h5 := hkr _ _ _ _ h3
            refine ⟨s, ks, vs, h4, ?_, hoM.get j (β s) k ks vs (by rw [List.getElem?_map, h1]; rfl) h2, (hS.maps.holds _ _ _ _ h5).2⟩
            have := hS.tmps i
            have e5 : (stripL (marksP us) st.t) i = .mp s k0 v0 := h5
            exact (show Rs m w β (a.tmps.getD i Go.undef) (.mp s k0 v0) from e5 ▸ this).mp) (fun i j s s' ks vs ks' vs' hi hj e => by
          obtain ⟨_, _, hi⟩ := hnm _ _ _ _ hi
          obtain ⟨_, _, hj⟩ := hnm _ _ _ _ hj
          exact hS.maps.inj _ _ _ _ _ _ _ _ hi hj e)
        have hCb : ∀ v sz es s, Bear E w' β ⟨t', b'⟩ (fun i => a.tmps.getD i Go.undef) v (.sl false sz es (some s)) → Bear E w β ⟨stripL (marksP us) st.t, stripBL E (marksP us) st.b⟩ (fun i => a.tmps.getD i Go.undef) v (.sl false sz es (some s)) := fun v sz es s hi => hUb _ _ _ _ (hCb0 _ _ _ _ (hCb1 _ _ _ _ hi))
        refine hE.res hd hv hC hCr (fun sz es k er => ?_) hK
        obtain ⟨g, hg1, hg2⟩ := hown sz es k er
        have hlt : ∀ s cs, st.b s = some cs → β s < w.heap.size := fun s cs hs => by
          obtain ⟨⟨_, _, _, _, _, hh, _⟩, _⟩ := h.boxes s cs hs
          exact heap_lt hh
        refine ⟨g, hg1, ?_, fun v0 sz0 es0 s hi e => ?_, fun s cs hs e => ?_⟩
        · rcases hg2 with hg2 | hg2
          · exact .inl (Nat.le_trans h.below.size hg2)
          · exact hgY g hg2
        · have hi := hCb _ _ _ _ hi
          rcases hg2 with hg2 | hg2
          · obtain ⟨_, _, _, _, _, _, hh, _⟩ := hSr.row _ _ _ _ hi
            have := heap_lt hh
            omega
          · exact hfree _ _ _ _ hi (e ▸ hg2)
        · obtain ⟨c0, h1⟩ := hCs s cs hs
          obtain ⟨c1, h2⟩ := (hSc s).1 ⟨c0, h1⟩
          rcases hg2 with hg2 | hg2
          · have := hlt s c1 h2
            omega
          · exact hbg s c1 h2 (e ▸ hg2)
      · cases hx
    · cases hx
  · cases hx
theorem ArgsP.snoc {b K : Nat} {cs : List V} (hb : BoxAt m w b cs) (hK : K ≤ b) : ∀ {vs : List Value} {us : List V} {bs gs hs : List Nat}, ArgsP m w K vs us bs gs hs → ArgsP m w K (vs ++ [.pointer (some ⟨b, 0, none⟩)]) (us ++ [.bx cs]) (bs ++ [b]) gs hs := by
  intro vs us bs gs hs h
  induction h with
  | nil => exact .bx hb hK .nil
  | bx hb' hK' _ ih => exact .bx hb' hK' ih
  | row hr hi hK' _ ih => exact .row hr hi hK' ih
  | no _ ih => exact .no ih
  | mp hm hK' _ ih => exact .mp hm hK' ih
  | dat hr hd' _ ih => exact .dat hr hd' ih
theorem slotsP_snoc (s : Nat) : ∀ l : List V, slotsP (l ++ [V.ptr s 0]) = slotsP l ++ [s]
  | [] => rfl
  | u :: l => by
    have ih := slotsP_snoc s l
    rw [List.cons_append]
    by_cases hu : ∃ s', u = .ptr s' 0
    · obtain ⟨s', rfl⟩ := hu
      show s' :: slotsP (l ++ [V.ptr s 0]) = s' :: slotsP l ++ [s]
      rw [ih]; rfl
    · rw [slotsP_no (fun s' e => hu ⟨s', e⟩), slotsP_no (fun s' e => hu ⟨s', e⟩), ih]
theorem marksP_snoc (s : Nat) : ∀ l : List V, marksP (l ++ [V.ptr s 0]) = marksP l
  | [] => rfl
  | u :: l => by
    have ih := marksP_snoc s l
    rw [List.cons_append]
    by_cases hu : ∃ nl sz es k, u = .sl nl sz es (some k)
    · obtain ⟨nl, sz, es, k, rfl⟩ := hu
      show k :: marksP (l ++ [V.ptr s 0]) = k :: marksP l
      rw [ih]
    · rw [marksP_no (fun nl sz es k e => hu ⟨nl, sz, es, k, e⟩), marksP_no (fun nl sz es k e => hu ⟨nl, sz, es, k, e⟩), ih]
theorem mapsP_snoc (s : Nat) : ∀ l : List V, mapsP (l ++ [V.ptr s 0]) = mapsP l
  | [] => rfl
  | u :: l => by
    have ih := mapsP_snoc s l
    rw [List.cons_append]
    by_cases hu : ∃ s' ks vs, u = .mp s' ks vs
    · obtain ⟨s', ks, vs, rfl⟩ := hu
      show s' :: mapsP (l ++ [V.ptr s 0]) = s' :: mapsP l
      rw [ih]
    · rw [mapsP_no (fun s' ks vs e => hu ⟨s', ks, vs, e⟩), mapsP_no (fun s' ks vs e => hu ⟨s', ks, vs, e⟩), ih]
theorem effV_is {u : V} {F : List V → Option (V × List (List V))} (h : effV E u = some F) : ∃ f lb, u = .x (.func (.func f) #[] ⟨lb⟩) ∧ E.X f lb = some F := by
  unfold effV at h
  split at h
  · exact ⟨_, _, rfl, h⟩
  · cases h
/-- A call that leans on the variable that nobody names. -/
theorem effX_sound (hE : EnvX E pm) (h : Rel E n pm m0 w0 m β st a w) {o : Oper} {c : Operand} {args : Array Operand} {ts : Array TypeId} (ho : o.op = .call { callee := .value c, args := args, argTypes := ts }) {F : List V → Option (V × List (List V))} (hF : effV E (ev E st c) = some F) {st' : St} (hx : callP E st o.dst F (args.toList.map (ev E st) ++ [V.ptr E.xk 0]) = some st') (hd : ∀ k, o.dst = some k → k < n)
    {K : Act → World → Prop} {Q : Exit → Act → World → Prop} (hK : ∀ a' w' m' β', Rel E n pm m0 w0 m' β' st' a' w' → K a' w') : o.wp E.P a w K Q := by
  obtain ⟨f, lb, hu, hX⟩ := effV_is hF
  obtain ⟨hxk, hfun⟩ := hE.fx f lb F hX
  have hc : a.eval c = .func (.func f) #[] ⟨lb⟩ := (hu ▸ ev_sound h c : Rs m w β (a.eval c) (.x (.func (.func f) #[] ⟨lb⟩))).x
  obtain ⟨ρ, hrw⟩ := h.rows
  have hx0 := hx
  unfold callP at hx0
  split at hx0
  case isFalse => cases hx0
  rename_i hcond
  obtain ⟨hd1, hd2, hd3, _⟩ := hcond
  rw [List.map_append, List.all_append, Bool.and_eq_true] at hd1
  rw [marksP_snoc] at hd3
  obtain ⟨cs, hcs⟩ : ∃ cs, st.b E.xk = some cs := by
    have := hd1.2
    simp only [List.map_cons, List.map_nil, List.all_cons, List.all_nil, Bool.and_true, argP] at this
    cases hb : st.b E.xk with
    | none => rw [hb] at this; cases this
    | some cs => exact ⟨cs, rfl⟩
  obtain ⟨hbx, hge⟩ := h.boxes _ _ hcs
  have hβ : β E.xk = pm.b E.xk := h.par.2.1 _ hxk
  obtain ⟨gs, hargs, hdom, hgn, hgm⟩ := args_P h hrw (hE.high _ h.j) args.toList hd1.1 hd3
  have hKb : E.K ≤ β E.xk := by
    rcases hge with hge | hge
    · exact Nat.le_trans (hE.high _ h.j) hge
    · exact h.par.2.2 _ hge
  have hargs' := hargs.snoc hbx hKb
  have hus : (args.toList.map (ev E st) ++ [V.ptr E.xk 0]).map (argP st.b) = (args.toList.map (ev E st)).map (argP st.b) ++ [.bx cs] := by
    rw [List.map_append, List.map_cons, List.map_nil]
    have : argP st.b (V.ptr E.xk 0) = .bx cs := by
      show (match st.b E.xk with | some cs => V.bx cs | none => .undef) = _
      rw [hcs]
    rw [this]
  have hss : (slotsP (args.toList.map (ev E st) ++ [V.ptr E.xk 0])).map β = (slotsP (args.toList.map (ev E st))).map β ++ [β E.xk] := by rw [slotsP_snoc, List.map_append]; rfl
  obtain ⟨r, outs, hr, hnd, hhn, hfin⟩ := callP_sound (gs := gs) hE h hd hrw hx (fun s hs => by
    rw [slotsP_snoc] at hs
    rcases List.mem_append.1 hs with hs | hs
    · exact hdom s hs
    · exact ⟨cs, by rw [List.mem_singleton.1 hs]; exact hcs⟩) hgn (fun g hg => by rw [marksP_snoc]; exact hgm g hg) (fun s hs => by rw [mapsP_snoc] at hs; exact maps_P h args.toList s hs) hK
  rw [hus] at hr
  rw [hss, mapsP_snoc] at hfin
  rw [hss] at hnd
  rw [mapsP_snoc] at hhn
  have := hfun m w (args.map a.eval) _ _ gs _ r outs hr (by rw [← hβ]; simpa using hargs') hnd hhn (hE.keep _ _ _ h.par.2.2 h.j h.below) h.glob
  have hrun : (execOp a.eval o).run E.P w = (callFunc f (args.map a.eval ++ ⟨lb⟩)).run E.P w := by
    simp only [execOp, ho, resolve, Sem.run_bind, hc, Deferred.ofValue, Sem.run_pure, Result.andThen_ok, invoke]
    simp
  unfold Oper.wp
  rw [hrun]
  rcases this with ⟨he, hcalls⟩ | ⟨v, w', he, m', hv, hb, hext, hm, ho', hown⟩
  · rw [he]
    refine hcalls.mono ?_
    rintro e w' ⟨v, rfl, m', hv, hb, hext, hm, ho', hown⟩
    exact hfin v w' m' hv hb hext hm ho' hown
  · rw [he]
    exact hfin v w' m' hv hb hext hm ho' hown
theorem Ext.freeze (g : Nat) (m : Lim) (w : World) : Ext m w (upd m g none) w := by
  refine ⟨Nat.le_refl _, fun _ _ _ _ _ h => h, fun blk _ fr' hf => ?_, fun _ _ _ _ h => h⟩
  by_cases e : blk = g
  · rw [e, upd_same] at hf; cases hf
  · rw [upd_ne _ _ e] at hf; exact ⟨fr', hf, Nat.le_refl _⟩
/-- A variable that nobody writes any more. -/
theorem BoxAt.ip {g : Nat} {cs : List V} (h : BoxAt m w g cs) : Rd (upd m g none) w (.pointer (some ⟨g, 0, none⟩)) (.ip (cs.map V.bare)) := by
  obtain ⟨_, vals, ty, xs, rest, hh, hx, hr⟩ := h
  have hl := hr.length
  refine .ip g 0 (cs.map V.bare) (fun k => (xs[k]?).getD Go.undef) (heap_lt hh) (fun k hk => ?_) (fun fr hf => by rw [upd_same] at hf; cases hf) (fun k d hd => ?_)
  · rw [List.length_map] at hk
    have hk' : k < xs.length := by omega
    rw [Nat.zero_add, Box.cell hh, ← Array.getElem?_toList, hx, List.getElem?_append_left hk', List.getElem?_eq_getElem hk']
    rfl
  · rw [List.getElem?_map, Option.map_eq_some_iff] at hd
    obtain ⟨u, hu, rfl⟩ := hd
    have hk : k < xs.length := by
      have := (List.getElem?_eq_some_iff.1 hu).1
      omega
    rw [List.getElem?_eq_getElem hk]
    exact ((hr.get k _ u (List.getElem?_eq_getElem hk) hu).bare).mono (Ext.freeze g m w)
/-- A variable, a row or a map that nobody writes any more; nobody names it. -/
theorem Rel.letgo (h : Rel E n pm m0 w0 m β st a w) {s : Nat} (hge : w0.heap.size ≤ β s ∨ β s ∈ pm.Y) (hobj : (∃ cs, st.b s = some cs) ∨ ∃ i ks vs, st.t i = .mp s ks vs) :
    Rel E n pm m0 w0 (upd m (β s) none) β ⟨kill s st.t, upd st.b s none⟩ a w := by
  have he := Ext.freeze (β s) m w
  have hbn : ∀ {k : Nat} {c : List V}, upd st.b s none k = some c → st.b k = some c ∧ k ≠ s := fun {k c} hk => by
    rw [upd_at] at hk
    split at hk
    · cases hk
    · rename_i e; exact ⟨hk, e⟩
  have hne : ∀ {k : Nat} {c : List V}, st.b k = some c → k ≠ s → β k ≠ β s := fun {k c} hk hn e => by
    rcases hobj with ⟨cs, hs⟩ | ⟨i, ks, vs, hi⟩
    · exact hn (h.inj _ _ _ _ hk hs e)
    · obtain ⟨⟨_, _, _, _, _, hh, _⟩, _⟩ := h.boxes _ _ hk
      obtain ⟨⟨_, _, hh2, _⟩, _⟩ := h.maps.holds _ _ _ _ hi
      rw [e, hh2] at hh
      cases hh
  obtain ⟨ρ, hr⟩ := h.rows
  have hρ : ∀ v sz es s', Bear E w β st (fun i => a.tmps.getD i Go.undef) v (.sl false sz es (some s')) → ρ s' ≠ β s := fun v sz es s' hb e => by
    rcases hobj with ⟨cs, hs⟩ | ⟨i, ks, vs, hi⟩
    · exact hr.box _ _ _ _ _ _ hb hs e.symm
    · obtain ⟨_, _, _, _, _, _, hh, _⟩ := hr.row _ _ _ _ hb
      obtain ⟨⟨_, _, hh2, _⟩, _⟩ := h.maps.holds _ _ _ _ hi
      rw [e, hh2] at hh
      cases hh
  refine ⟨fun i => ((h.tmps i).mono he).kill, h.size, fun k c hk => ?_, fun k k' c c' h1 h2 e => h.inj _ _ _ _ (hbn h1).1 (hbn h2).1 e, h.below, h.par, ⟨fun blk hb hy => ?_, h.mold.2.1.trans he, h.mold.2.2⟩, ⟨ρ, hr.to (fun v sz es s' hi => hi.from (fun i hi => .inl ⟨i, kill_sl hi, rfl⟩) (fun k c j h1 h2 h3 h4 => .inr ⟨k, c, j, h1, (hbn h2).1, h3, h4⟩)) (fun v sz es s' hi => ⟨rfl, upd_ne _ _ (hρ _ _ _ _ hi)⟩) (fun v sz es s' k c hi hk => hr.box _ _ _ _ _ _ hi (hbn hk).1)⟩,
    fun i s' sz len c hi hk => ?_, h.defers, fun g => (h.glob g).mono he, h.j, ⟨fun i s' ks vs hi => ?_, fun i j s1 s2 ks vs ks' vs' hi hj e => ?_⟩⟩
  · obtain ⟨⟨hl, vals, ty, xs, rest, hh, hx, hr'⟩, hge'⟩ := h.boxes k c (hbn hk).1
    exact ⟨⟨by rw [upd_ne _ _ (hne (hbn hk).1 (hbn hk).2)]; exact hl, vals, ty, xs, rest, hh, hx, hr'.mono he⟩, hge'⟩
  · have : blk ≠ β s := fun e => by
      rcases hge with h1 | h1
      · omega
      · exact hy (e ▸ h1)
    rw [upd_ne _ _ this]
    exact h.mold.1 blk hb hy
  · have hi : kill s st.t i = .row s' sz len := hi
    obtain ⟨e, _⟩ := kill_is (show (kill s st.t i).nm = some s' by rw [hi]; rfl)
    exact h.own i s' sz len c (e ▸ hi) (hbn hk).1
  · have hi : kill s st.t i = .mp s' ks vs := hi
    obtain ⟨e, hs'⟩ := kill_is (show (kill s st.t i).nm = some s' by rw [hi]; rfl)
    rw [e] at hi
    obtain ⟨⟨ents, clock, hh, hrd, h1, h2, h3⟩, h4⟩ := h.maps.holds i s' ks vs hi
    refine ⟨⟨ents, clock, hh, hrd.mono he, h1, h2, ?_⟩, h4⟩
    have hn : β s' ≠ β s := fun e => by
      rcases hobj with ⟨cs, hs⟩ | ⟨i2, ks2, vs2, hi2⟩
      · obtain ⟨⟨_, _, _, _, _, hh2, _⟩, _⟩ := h.boxes _ _ hs
        rw [e, hh2] at hh
        cases hh
      · exact hs' (h.maps.inj _ _ _ _ _ _ _ _ hi hi2 e)
    rw [upd_ne _ _ hn]
    exact h3
  · have hi : kill s st.t i = .mp s1 ks vs := hi
    have hj : kill s st.t j = .mp s2 ks' vs' := hj
    obtain ⟨e1, _⟩ := kill_is (show (kill s st.t i).nm = some s1 by rw [hi]; rfl)
    obtain ⟨e2, _⟩ := kill_is (show (kill s st.t j).nm = some s2 by rw [hj]; rfl)
    exact h.maps.inj _ _ _ _ _ _ _ _ (e1 ▸ hi) (e2 ▸ hj) e
theorem chunkF_len (sz : Nat) : ∀ (k : Nat) (cs : List V), (chunkF sz k cs).length = k
  | 0, _ => rfl
  | k + 1, cs => by simp [chunkF, chunkF_len sz k]
theorem chunkF_flat (sz : Nat) (hz : sz ≠ 0) : ∀ (k : Nat) (cs : List V), k * sz ≤ cs.length → (∀ u ∈ cs, u.cells = [u]) → (chunkF sz k cs).flatMap V.cells = cs.take (k * sz) ∧ ∀ e ∈ chunkF sz k cs, e.cells.length = sz
  | 0, cs, _, _ => by simp [chunkF]
  | k + 1, cs, hl, h1 => by
    have hk : k * sz ≤ (cs.drop sz).length := by rw [List.length_drop]; rw [Nat.add_mul] at hl; omega
    obtain ⟨q1, q2⟩ := chunkF_flat sz hz k (cs.drop sz) hk (fun u hu => h1 u (List.mem_of_mem_drop hu))
    have hsl : sz ≤ cs.length := by rw [Nat.add_mul] at hl; omega
    have hd : (if sz = 1 then (cs[0]?).getD (V.agg (cs.take sz)) else V.agg (cs.take sz)).cells = cs.take sz := by
      split
      · rename_i e
        subst e
        cases cs with
        | nil => simp at hsl
        | cons c cs => simpa using h1 c (by simp)
      · rfl
    refine ⟨?_, fun e he => ?_⟩
    · simp only [chunkF, List.flatMap_cons, hd, q1]
      rw [Nat.add_mul, Nat.add_comm, Nat.one_mul, List.take_add]
    · simp only [chunkF, List.mem_cons] at he
      rcases he with rfl | he
      · rw [hd, List.length_take]; omega
      · exact q2 e he
theorem cell_cells {u : V} (h : u.cell = true) : u.cells = [u] := by
  cases u <;> first | rfl | (simp [V.cell] at h)
theorem bareL_dat {cs : List V} (h : cs.all V.dat = true) : cs.map V.bare = cs := by
  rw [List.all_eq_true] at h
  have : ∀ u ∈ cs, V.bare u = u := fun u hu => by
    have := h u hu
    rw [bare_eq]
    cases u <;> first | rfl | skip
    rename_i nl sz es tok
    cases tok <;> first | rfl | (simp [V.dat] at this)
  rw [List.map_congr_left this, List.map_id']
theorem freezeV_sound (hE : EnvX E pm) (h : Rel E n pm m0 w0 m β st a w) {d : Option Tmp} (hfz : E.fzO d = true) (hd : ∀ k, d = some k → k < n) {x : Operand} {st' : St} (hx : freezeV E st d (ev E st x) = some st') : ∃ m', Rel E n pm m0 w0 m' β st' (a.put d (a.eval x)) w := by
  have hXY : ∀ x ∈ pm.X, x ∈ pm.Y := by
    rcases hE.fz with h1 | h1
    · cases d with
      | none => cases hfz
      | some d => rw [show E.fzO (some d) = E.fz d from rfl, h1] at hfz; cases hfz
    · exact h1
  have hv := ev_sound h x
  unfold freezeV at hx
  split at hx
  · rename_i d s sz len he
    rw [he] at hv
    split at hx
    case h_2 => cases hx
    rename_i cs hs
    split at hx
    case isFalse => cases hx
    rename_i hc
    cases hx
    obtain ⟨hz, hmb, hdat, hone⟩ := hc
    obtain ⟨i, rfl, hi⟩ := ev_row h he
    obtain ⟨hb, hge⟩ := h.boxes s cs hs
    obtain ⟨hfit, cap, cur, ty, hval, hh, hsz⟩ := h.own i s sz len cs hi hs
    refine ⟨_, (h.letgo (hge.imp id (hXY _)) (.inl ⟨cs, hs⟩)).put (d := some d) hd (u := .sl false sz (chunkV sz len cs) none) (.of ?_) (fun sz es s' e => by cases e) (fun s sz len cs e => by cases e) (fun s ks vs e => by cases e)⟩
    have hval : a.eval (.tmp i) = _ := hval
    obtain ⟨_, vals, ty', xs, rest, hh', hxs, hr⟩ := hb
    rw [hh] at hh'
    have hcv : cur = vals := by injection hh' with hh'; injection hh'
    have hlr := hr.length
    have hcl : len ≤ cap := by
      obtain ⟨cap', hv1, hv2⟩ := hv.row
      rw [hval] at hv1
      injection hv1 with _ _ e3
      omega
    rw [hval, chunkV_eq]
    have hlc : (chunkF sz len cs).length = len := chunkF_len sz len cs
    obtain ⟨hf1, hf2⟩ := chunkF_flat sz hz len cs hfit (fun u hu => cell_cells (List.all_eq_true.1 hone u hu))
    have hflat : Flat (upd m (β s) none) w (xs.take (len * sz)) sz (chunkF sz len cs) := flat_of_rdl _ _ hf2 (by rw [hf1]; exact (hr.mono (Ext.freeze _ _ _)).take _)
    have := Rd.of_flat hflat (g := β s) (cap := cap) (cur := cur) hh (fun j x hj => by
      rw [List.getElem?_take] at hj
      split at hj
      · rw [← Array.getElem?_toList, hcv, hxs, List.getElem?_append_left (List.getElem?_eq_some_iff.1 hj).1]; exact hj
      · cases hj) (by rw [hlc]; exact hcl) (fun fr hf => by rw [upd_same] at hf; cases hf) none
    rwa [hlc] at this
  · rename_i d s ks vs he
    rw [he] at hv
    cases hx
    obtain ⟨i, rfl, hi⟩ := ev_mp h he
    obtain ⟨hm, hge⟩ := h.maps.holds i s ks vs hi
    refine ⟨_, (h.letgo (hge.imp id (hXY _)) (.inr ⟨i, ks, vs, hi⟩)).put (d := some d) hd (u := .fm ks vs) (.of ?_) (fun sz es s' e => by cases e) (fun s sz len cs e => by cases e) (fun s ks vs e => by cases e)⟩
    rw [hv.mp]
    exact hm.freeze (Ext.freeze _ _ _) (upd_same _ _ _)
  · rename_i d s he
    rw [he] at hv
    split at hx
    case h_2 => cases hx
    rename_i cs hs
    split at hx
    case isFalse => cases hx
    rename_i hc
    cases hx
    obtain ⟨hb, hge⟩ := h.boxes s cs hs
    refine ⟨_, (h.letgo (hge.imp id (hXY _)) (.inl ⟨cs, hs⟩)).put (d := some d) hd (u := .ip cs) (.of ?_) (fun sz es s' e => by cases e) (fun s sz len cs e => by cases e) (fun s ks vs e => by cases e)⟩
    rw [hv.ptr]
    have := hb.ip
    rwa [bareL_dat hc.2] at this
  · cases hx
theorem execN_sound (hE : EnvX E pm) (h : Rel E n pm m0 w0 m β st a w) {o : Oper} {st' : St} (hx : execN E o st = some st') (hd : ∀ k, o.dst = some k → k < n)
    {K : Act → World → Prop} {Q : Exit → Act → World → Prop} (hK : ∀ a' w' m' β', Rel E n pm m0 w0 m' β' st' a' w' → K a' w') : o.wp E.P a w K Q := by
  unfold Oper.wp
  unfold execN at hx
  split at hx
  · rename_i t ho
    split at hx
    · rename_i z hz
      split at hx
      case isFalse => simp at hx
      rename_i hmb
      obtain ⟨zv, hzr, hzd⟩ := zeroB_sound (w := w) (m := m) hz
      obtain ⟨m', β', hrel⟩ := newV_sound h hd hx hmb (ty := t) hzd
      have hrun : (execOp a.eval o).run E.P w = .ok (.value (.pointer (some ⟨w.heap.size, 0, none⟩))) (w.alloc (.cells zv.cells t)) := by
        simp only [execOp, ho, Instr.alloc, Sem.run_bind, hzr, Result.andThen_ok, newVar, newRow, run_newObj, Sem.run_pure]
        rfl
      rw [hrun]
      exact hK _ _ _ _ hrel
    · simp at hx
  · rename_i t x ho
    split at hx
    · rename_i hdat
      obtain ⟨hdat, hmb⟩ := hdat
      obtain ⟨m', β', hrel⟩ := newV_sound h hd hx hmb (ty := t) (dat_cells ((ev_sound h x).bare.dat hdat) hdat)
      have hrun : (execOp a.eval o).run E.P w = .ok (.value (.pointer (some ⟨w.heap.size, 0, none⟩))) (w.alloc (.cells (a.eval x).cells t)) := by
        simp only [execOp, ho, Instr.box, Sem.run_bind, Result.andThen_ok, newVar, newRow, run_newObj, Sem.run_pure]
        rfl
      rw [hrun]
      exact hK _ _ _ _ hrel
    · simp at hx
  · rename_i t p x ho
    split at hx
    · rename_i hdst
      obtain ⟨w', hr, hrel⟩ := storeV_sound h (ev_sound h p) (ev_sound h x) (fun sz es s' he => by
        obtain ⟨i, rfl, hi⟩ := ev_tok he
        rw [he]
        exact .inl ⟨i, hi, rfl⟩) hx
      have hrun : (execOp a.eval o).run E.P w = .ok .skip w' := by simp only [execOp, ho, Sem.run_bind, hr, Result.andThen_ok, Sem.run_pure]
      rw [hrun]
      refine hK _ _ m β ?_
      rw [Option.isNone_iff_eq_none.1 hdst]
      exact hrel
    · simp at hx
  · rename_i t p ho
    split at hx
    · rename_i u hu
      cases hx
      have hu := (np_some hu).1
      obtain ⟨v, hr, hv⟩ := loadV_sound h (ev_sound h p) hu
      have hrun : (execOp a.eval o).run E.P w = .ok (.value v) w := by simp only [execOp, ho, Sem.run_bind, hr, Result.andThen_ok, Sem.run_pure]
      rw [hrun]
      refine hK _ _ m β ?_
      unfold Env.keepL
      split
      · rename_i hM
        refine h.put hd (.of hv) (fun sz es s he => ?_) (fun s sz len cs e => (e ▸ hv).not_row.elim) (fun s ks vs e => (e ▸ hv).not_mp.elim)
        have hp := ev_sound h p
        generalize ev E st p = q at hM hu hp
        cases q with
        | ptr s0 off =>
          have hM : E.MB s0 = true := hM
          simp only [loadV] at hu
          split at hu
          · rename_i cs hcs
            rw [he] at hu ⊢
            exact load_bear h hcs hM hp.ptr hu hr
          · cases hu
        | _ => cases hM
      · exact h.put hd (.of hv.bare) (bare_tok _) (fun s sz len cs e => by have e : u.bare = _ := e; exact (e ▸ hv.bare).not_row.elim) (fun s ks vs e => by have e : u.bare = _ := e; exact (e ▸ hv.bare).not_mp.elim)
    · cases hx
  · rename_i args argTypes ho
    split at hx
    · rename_i x y t t' ha ht
      have hargs : args = #[x, y] := by apply Array.toList_inj.1; simpa using ha
      have hts : argTypes = #[t, t'] := by apply Array.toList_inj.1; simpa using ht
      subst hargs hts
      split at hx
      · rename_i el htt hu
        simp only [decide_eq_true_eq] at htt
        subst htt
        have hy := ev_sound h y
        obtain ⟨v, w', m', β', hr, hrel⟩ := growV_sound (sy := y) (t := t) (t' := t) (ty := o.type) h hd (fun i nl sz es tok hyv hi hs => src_sl hu hi ((hyv ▸ hy : Rs m w β _ (.sl nl sz es tok)).rd (by intros; simp)) hs) hx
        have hrun : (execOp a.eval o).run E.P w = .ok (.value v) w' := by
          simp only [execOp, ho, resolve, Sem.run_bind, Sem.run_pure, Result.andThen_ok, invoke, builtin]
          simp [hr]
        rw [hrun]
        exact hK _ _ _ _ hrel
      · rename_i el htt hu
        split at hx
        · rename_i s hu' hs
          have hy := (hs ▸ ev_sound h y : Rs m w β _ (.x (.string s))).x
          obtain ⟨v, w', m', β', hr, hrel⟩ := growV_sound (sy := y) (t := t) (t' := t') (ty := o.type) h hd (fun i nl sz es tok hyv hi hs' => by
            cases hyv
            rw [hy]
            exact src_str hu hu' hi hs') hx
          have hrun : (execOp a.eval o).run E.P w = .ok (.value v) w' := by
            simp only [execOp, ho, resolve, Sem.run_bind, Sem.run_pure, Result.andThen_ok, invoke, builtin]
            simp [hr]
          rw [hrun]
          exact hK _ _ _ _ hrel
        · cases hx
      · simp at hx
    · simp at hx
  · rename_i t r ho
    split at hx
    · rename_i kt et d hu hds hq
      split at hx
      · rename_i hn
        cases hx
        have hrun : (execOp a.eval o).run E.P w = .ok (.value (.map (some w.heap.size))) (w.alloc (.map #[] 0)) := by
          cases r with
          | none =>
            simp only [execOp, ho, Option.map_none, Instr.makeMap, Sem.run_bind, Sem.run_pure, Result.andThen_ok, run_newObj]
            rfl
          | some x =>
            obtain ⟨k, i, hx⟩ : ∃ k i, ev E st x = .x (.int k i) := by
              rw [Option.map_some] at hq
              unfold hintV at hq
              split at hq
              · rename_i he; cases he
              · rename_i k i he; exact ⟨k, i, Option.some.inj he⟩
              · cases hq
            have hxe : a.eval x = .int k i := (hx ▸ ev_sound h x : Rs m w β _ (.x (.int k i))).x
            simp only [execOp, ho, Option.map_some, Instr.makeMap, Sem.run_bind, Sem.run_pure, Result.andThen_ok, run_newObj, run_und hu, hxe, asInt, asIntOf]
            rfl
        rw [hrun]
        show K (a.put o.dst (.map (some w.heap.size))) _
        rw [hds]
        exact hK _ _ _ _ (h.newMap (hd d hds) hn)
      · cases hx
    · cases hx
  · rename_i t x k v ho
    split at hx
    · rename_i s ks vs hds hmp
      split at hx
      · rename_i ks' vs' hput
        cases hx
        obtain ⟨i0, rfl, hi0⟩ := ev_mp h hmp
        have hmx : a.eval (.tmp i0) = .map (some (β s)) := (hmp ▸ ev_sound h (.tmp i0) : Rs m w β _ (.mp s ks vs)).mp
        have hdat : (ev E st v).bare.dat = true ∧ keyOK E.P (match E.P.underlying t with | some (.map kt _) => kt | _ => 0) (ev E st k).bare = true := by
          unfold putM at hput
          split at hput
          · rename_i kt et hu
            split at hput
            · rename_i hc; rw [hu]; exact ⟨hc.2, hc.1⟩
            · cases hput
          · cases hput
        have hkr : Rd m w (a.eval k) (ev E st k).bare := (ev_sound h k).bare.rd (keyOK_nm hdat.2)
        obtain ⟨ents, clock, hr, hm, _⟩ := putM_sound (h.maps.holds i0 s ks vs hi0).1 hkr ((ev_sound h v).bare.dat hdat.1) hput
        have hrun : (execOp a.eval o).run E.P w = .ok .skip { w with heap := w.heap.setIfInBounds (β s) (.map ents clock) } := by
          simp only [execOp, ho, hmx, Sem.run_bind, hr, Result.andThen_ok, Sem.run_pure]
        rw [hrun]
        refine hK _ _ m β ?_
        rw [hds]
        exact h.setMap hi0 hm
      · cases hx
    · cases hx
  · rename_i t x k ok ho
    split at hx
    · rename_i u hu
      cases hx
      obtain ⟨ks, vs, hkv⟩ : ∃ ks vs, (ev E st x).kv = some (ks, vs) := by
        unfold lookV at hu
        split at hu
        · rename_i h1; exact ⟨_, _, h1⟩
        · cases hu
      have hkr : Rd m w (a.eval k) (ev E st k).bare := (ev_sound h k).bare.rd (lookV_nm hu)
      obtain ⟨g, hmx, hmg⟩ : ∃ g, a.eval x = .map (some g) ∧ ∃ ents clock, w.heap[g]? = some (.map ents clock) ∧ MapRd m w ents.toList ks vs := by
        rcases kv_is hkv with ⟨s, hmp⟩ | hmp
        · obtain ⟨ents, clock, hh, hrd, _⟩ := ev_map h hmp
          exact ⟨β s, (hmp ▸ ev_sound h x : Rs m w β _ (.mp s ks vs)).mp, ents, clock, hh, hrd⟩
        · obtain ⟨g, ents, clock, e, hh, hrd, _⟩ := ((hmp ▸ ev_sound h x : Rs m w β _ (.fm ks vs)).rd rfl).fm_at
          exact ⟨g, e, ents, clock, hh, hrd⟩
      obtain ⟨v, hr, hv⟩ := lookR_sound hkv hmg hkr hu
      have hrun : (execOp a.eval o).run E.P w = .ok (.value v) w := by
        simp only [execOp, ho, hmx, Sem.run_bind, hr, Result.andThen_ok, Sem.run_pure]
      rw [hrun]
      refine hK _ _ m β ?_
      exact h.put hd (.of hv.bare) (bare_tok _) (fun s sz len cs e => by have e : u.bare = _ := e; exact (e ▸ hv.bare).not_row.elim) (fun s ks vs e => by have e : u.bare = _ := e; exact (e ▸ hv.bare).not_mp.elim)
    · cases hx
  · rename_i t l c ho
    split at hx
    · rename_i el hu
      split at hx
      · obtain ⟨v, w', m', β', hr, hrel⟩ := makeR_sound h hd (ev_sound h l) (ev_sound h c) hu hx
        have hrun : (execOp a.eval o).run E.P w = .ok (.value v) w' := by simp only [execOp, ho, Sem.run_bind, hr, Result.andThen_ok, Sem.run_pure]
        rw [hrun]
        exact hK _ _ _ _ hrel
      · obtain ⟨v, w', m', hr, hrel⟩ := makeV_sound h hd (ev_sound h l) (ev_sound h c) hu hx
        have hrun : (execOp a.eval o).run E.P w = .ok (.value v) w' := by simp only [execOp, ho, Sem.run_bind, hr, Result.andThen_ok, Sem.run_pure]
        rw [hrun]
        exact hK _ _ _ _ hrel
    · simp at hx
  · rename_i t len parts ho
    have hvs : ∀ (i : Nat) (x : Nat × Value) (u : Nat × V), (parts.toList.map fun p => (p.1, a.eval p.2))[i]? = some x → (parts.toList.map fun p => (p.1, (ev E st p.2).bare))[i]? = some u → Rs m w β x.2 u.2 := by
      intro i x u hx hu'
      simp only [List.getElem?_map, Option.map_eq_some_iff] at hx hu'
      obtain ⟨p, hp, rfl⟩ := hx
      obtain ⟨q, hq, rfl⟩ := hu'
      rw [hp] at hq; cases hq
      exact (ev_sound h _).bare
    have hpa : (parts.map fun (i, x) => (i, a.eval x)) = (parts.toList.map fun p => (p.1, a.eval p.2)).toArray := by apply Array.toList_inj.1; simp
    split at hx
    · split at hx
      · obtain ⟨v, w', hr, hk⟩ := litR_sound hE h hd (vs := parts.toList.map fun p => (p.1, a.eval p.2)) (by simp) hvs hx hK
        have hrun : (execOp a.eval o).run E.P w = .ok (.value v) w' := by
          simp only [execOp, ho, Sem.run_bind]
          rw [hpa, hr]
          simp
        rw [hrun]
        exact hk
      · split at hx
        case isFalse => cases hx
        rename_i hmb
        obtain ⟨v, w', m', β', hr, hrel⟩ := newR_sound h hd (hmb := hmb) (vs := parts.toList.map fun p => (p.1, a.eval p.2)) (by simp) hvs hx
        have hrun : (execOp a.eval o).run E.P w = .ok (.value v) w' := by
          simp only [execOp, ho, Sem.run_bind]
          rw [hpa, hr]
          simp
        rw [hrun]
        exact hK _ _ _ _ hrel
    · split at hx
      · rename_i u hu
        cases hx
        simp only [valV] at hu
        obtain ⟨v, w', m', hr, hv, hb, hm⟩ := rowV_sound (m := m) (w := w) (P := E.P) (vs := parts.toList.map fun p => (p.1, a.eval p.2)) (by simp) hvs hu
        have hrun : (execOp a.eval o).run E.P w = .ok (.value v) w' := by
          simp only [execOp, ho, Sem.run_bind]
          rw [hpa, hr]
          simp
        rw [hrun]
        refine hK _ _ m' β ?_
        rw [keepV_eq]
        exact (h.call hb hm).put hd (.of hv.bare) (bare_tok _) (fun s sz len cs e => by have e : u.bare = _ := e; exact (e ▸ hv.bare).not_row.elim) (fun s ks vs e => by have e : u.bare = _ := e; exact (e ▸ hv.bare).not_mp.elim)
      · cases hx
  · rename_i t1 t2 x ho
    split at hx
    · obtain ⟨v, w', m', β', hr, hrel⟩ := convV_sound h hd (ev_sound h x) (fun s sz len cs he hb => by
        obtain ⟨i, rfl, hi⟩ := ev_row h he
        exact h.own i s sz len cs hi hb) hx
      have hrun : (execOp a.eval o).run E.P w = .ok (.value v) w' := by
        simp only [execOp, ho, Sem.run_bind, hr, Result.andThen_ok, Sem.run_pure]
      rw [hrun]
      exact hK _ _ _ _ hrel
    · split at hx
      · rename_i u hu
        cases hx
        have hu : pureV E (.convert t1 t2 x) (ev E st) = some u := hu
        obtain ⟨x0, rfl⟩ : ∃ x0, u = .x x0 := by
          simp only [pureV] at hu
          repeat' split at hu
          all_goals first | (cases hu; exact ⟨_, rfl⟩) | cases hu
        rw [← ho] at hu
        obtain ⟨v, hr, hv⟩ := pureV_sound (ρ := a.eval) (fun x => ev_sound h x) (fun x s ks vs e => ev_map h e) hu
        rw [hr]
        refine hK _ _ m β ?_
        rw [keepV_eq]
        refine h.put hd hv.bare (bare_tok _) (fun s sz len cs e => ?_) (fun s ks vs e => ?_)
        · have e : (V.x x0).bare = _ := e
          rw [bare_eq] at e
          cases e
        · have e : (V.x x0).bare = _ := e
          rw [bare_eq] at e
          cases e
      · cases hx
  · rename_i c args ts ho
    split at hx
    · rename_i F hF
      exact effX_sound hE h ho hF hx hd hK
    split at hx
    case h_2 => simp at hx
    rename_i f hf
    have hc : a.eval c = .func (.func f) #[] #[] := (fnOf_is hf ▸ ev_sound h c).x
    split at hx
    · rename_i F hF
      obtain ⟨hcall, hfun⟩ := hE.fnM f F hF
      have hrun : (execOp a.eval o).run E.P w = .ok (.enter f (args.map a.eval)) w := by
        simp only [execOp, ho, resolve, Sem.run_bind, hc, Deferred.ofValue, Sem.run_pure, Result.andThen_ok, invoke]
        rw [hcall]
        simp
      rw [hrun]
      unfold callM at hx
      split at hx
      case h_2 => cases hx
      rename_i d hds hdat
      split at hx
      case h_2 => cases hx
      rename_i ks rs hr
      split at hx
      case isFalse => cases hx
      rename_i hn
      cases hx
      have := hfun m w (args.map a.eval) _ _ _ hr hdat (by simpa using args_rd h args.toList hdat) (hE.keep _ _ _ h.par.2.2 h.j h.below) h.glob
      refine this.mono ?_
      rintro e w' ⟨g, m', rfl, hg, hM, hb, hm⟩
      show K (a.put o.dst (.map (some g))) w'
      rw [hds]
      exact hK _ _ m' _ (h.newMapAt (hd d hds) hn hb hm hg hM)
    split at hx
    · rename_i F hF
      obtain ⟨hcall, hfun⟩ := hE.fnP f F hF
      have hrun : (execOp a.eval o).run E.P w = .ok (.enter f (args.map a.eval)) w := by
        simp only [execOp, ho, resolve, Sem.run_bind, hc, Deferred.ofValue, Sem.run_pure, Result.andThen_ok, invoke]
        rw [hcall]
        simp
      rw [hrun]
      obtain ⟨ρ, hrw⟩ := h.rows
      have hx0 := hx
      unfold callP at hx0
      split at hx0
      case isFalse => cases hx0
      rename_i hcond
      obtain ⟨gs, hargs, hdom, hgn, hgm⟩ := args_P h hrw (hE.high _ h.j) args.toList hcond.1 hcond.2.2.1
      obtain ⟨r, outs, hr, hnd, hhn, hfin⟩ := callP_sound hE h hd hrw hx hdom hgn hgm (maps_P h args.toList) hK
      have := hfun m w (args.map a.eval) _ _ gs _ r outs hr (by simpa using hargs) hnd hhn (hE.keep _ _ _ h.par.2.2 h.j h.below) h.glob
      refine this.mono ?_
      rintro e w' ⟨v, m', rfl, hv, hb, hext, hm, ho, hown⟩
      exact hfin v w' m' hv hb hext hm ho hown
    · split at hx
      · rename_i u hu
        cases hx
        simp only [valV, hf] at hu
        split at hu
        · rename_i F hF
          split at hu
          · rename_i hdat
            have hr := (np_some hu).1
            obtain ⟨hcall, hfun⟩ := hE.fn f F hF
            have hrun : (execOp a.eval o).run E.P w = .ok (.enter f (args.map a.eval)) w := by
              simp only [execOp, ho, resolve, Sem.run_bind, hc, Deferred.ofValue, Sem.run_pure, Result.andThen_ok, invoke]
              rw [hcall]
              simp
            rw [hrun]
            have := hfun m w (args.map a.eval) _ _ hr hdat (by simpa using args_rd h args.toList hdat) (hE.keep _ _ _ h.par.2.2 h.j h.below) h.glob
            refine this.mono ?_
            rintro e w' ⟨v, m', rfl, hv, hb, hm⟩
            refine hK _ _ m' β ?_
            rw [keepV_eq]
            exact (h.call hb hm).put hd (.of hv.bare) (bare_tok _) (fun s sz len cs e => by have e : u.bare = _ := e; exact (e ▸ hv.bare).not_row.elim) (fun s ks vs e => by have e : u.bare = _ := e; exact (e ▸ hv.bare).not_mp.elim)
          · simp at hu
        · simp at hu
      · cases hx
  · rename_i hnl _ _ _ _ _ hnb _ hnc
    split at hx
    · rename_i u hu
      cases hx
      unfold valV at hu
      split at hu
      · rename_i t p ho
        exact absurd ho (hnl t p)
      · rename_i c args ts ho
        exact absurd ho (hnc c args ts)
      · rename_i t len parts ho
        exact absurd ho (hnb t len parts)
      · by_cases hmv : isMv o.op = true
        · obtain ⟨x, hr, rfl⟩ := move_sound (P := E.P) (ρ := a.eval) (w := w) (fun x => ev_sound h x) hmv hu
          rw [hr]
          refine hK _ _ m β ?_
          simp only [keepV_eq, hmv, cond_true]
          refine h.put hd (ev_sound h x) (fun sz es s he => ?_) (fun s sz len cs he hb => ?_) (fun s ks vs he => ?_)
          · cases x with
            | tmp k => exact .inl ⟨k, rfl, rfl⟩
            | const v => simp only [ev, ofVal] at he; split at he <;> cases he
            | global g => simp only [ev, bare_eq] at he; generalize E.G g = u at he; cases u <;> cases he
            | func f => cases he
          · obtain ⟨i, rfl, hi⟩ := ev_row h he
            exact h.own i s sz len cs hi hb
          · obtain ⟨i, _, hi⟩ := ev_mp h he
            exact ⟨i, hi⟩
        · simp only [Bool.not_eq_true] at hmv
          by_cases hrw : ∃ s sz len, u = .row s sz len
          · obtain ⟨s, sz, len, rfl⟩ := hrw
            obtain ⟨v, hr, hv, ho⟩ := pureV_own h hmv hu
            rw [hr]
            refine hK _ _ m β ?_
            rw [keepV_row]
            exact h.put hd hv (fun sz es s he => by cases he) (fun s sz len cs he hb => by cases he; exact ho cs hb) (fun s ks vs e => by cases e)
          · obtain ⟨v, hr, hv⟩ := pureV_sound (ρ := a.eval) (fun x => ev_sound h x) (fun x s ks vs e => ev_map h e) hu
            rw [hr]
            refine hK _ _ m β ?_
            simp only [keepV_eq]
            rw [hmv]
            refine h.put hd hv.bare (bare_tok _) (fun s sz len cs e => ?_) (fun s ks vs e => ?_)
            · exfalso
              have e : u.bare = _ := e
              rw [bare_eq] at e
              cases u <;> first | exact hrw ⟨_, _, _, rfl⟩ | cases e
            · exfalso
              have e : u.bare = _ := e
              rw [bare_eq] at e
              cases u <;> first | exact pureV_ismp hmv hu | cases e
    · simp at hx
theorem execV_sound (hE : EnvX E pm) (h : Rel E n pm m0 w0 m β st a w) {o : Oper} {st' : St} (hx : execV E o st = some st') (hd : ∀ k, o.dst = some k → k < n)
    {K : Act → World → Prop} {Q : Exit → Act → World → Prop} (hK : ∀ a' w' m' β', Rel E n pm m0 w0 m' β' st' a' w' → K a' w') : o.wp E.P a w K Q := by
  unfold execV at hx
  split at hx
  · rename_i hfz
    split at hx
    case h_2 => cases hx
    rename_i x hmv
    obtain ⟨m', hrel⟩ := freezeV_sound hE h hfz hd hx
    have hrun : (execOp a.eval o).run E.P w = .ok (.value (a.eval x)) w := by
      unfold mvOf at hmv
      split at hmv
      · rename_i x' ho
        cases hmv
        simp [execOp, ho]
      · rename_i x' ho
        cases hmv
        simp [execOp, ho]
      · cases hmv
    unfold Oper.wp
    rw [hrun]
    exact hK _ _ _ _ hrel
  · exact execN_sound hE h hx hd hK
end
end Go.Proofs.Ytkacldoiimlmcaa
