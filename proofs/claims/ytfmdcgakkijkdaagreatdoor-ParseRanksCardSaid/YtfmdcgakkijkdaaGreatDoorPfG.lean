/- Each operation of a run over plain data is matched by the program's: 'execV_sound'. No program is named here. -/
import Derived.Test.YtfmdcgakkijkdaaGreatDoorPfF
namespace Go.Proofs.YtfmdcgakkijkdaaGreatDoor
open Go Go.RowKit

section
variable {E : Env} {n : Nat} {pm : Pm} {m0 m : Lim} {w0 w : World} {β : Nat → Nat} {st : St} {a : Act}

theorem cell_one {v : Value} {u : V} (h : Rd m w v u) (hu : u.cell = true) : v.oneCell' = true := by
  cases h with
  | undef v => simp [V.cell] at hu
  | x v => cases v <;> first | rfl | (simp [V.cell] at hu)
  | agg cs Cs hl h => simp [V.cell] at hu
  | tup cs Cs hl h => simp [V.cell] at hu
  | nil sz tok => rfl
  | emp a cap sz => rfl
  | dyn t v => rfl
  | sl blk off cap sz es tok c hb hcap hsz hc hm hr => rfl
  | ip blk off cs c hb hc hm hr => rfl

theorem cells_one : ∀ {vs : List Value} {us : List V}, RdL m w vs us → us.all V.cell = true → ∀ v ∈ vs, v.oneCell' = true
  | [], [], _, _, v, hv => by simp at hv
  | v0 :: vs, u0 :: us, h, hu, v, hv => by
    simp only [List.all_cons, Bool.and_eq_true] at hu
    cases hv with
    | head => exact cell_one h.1 hu.1
    | tail _ hm => exact cells_one h.2 hu.2 v hm

theorem dat_cells {v : Value} {u : V} (h : Rd m w v u) (hu : u.dat = true) : RdL m w v.cells.toList u.cells :=
  h.cells (by rintro rfl; simp [V.dat] at hu) (by rintro a rfl; simp [V.dat] at hu)

theorem Rel.store (h : Rel E n pm m0 w0 m β st a w) {s : Nat} {cs cs' : List V} {vals vals' : Array Value} {ty : TypeId} (hs : st.b s = some cs)
    (hh : w.heap[β s]? = some (.cells vals ty (0, 0))) {xs' rest' : List Value} (hx' : vals'.toList = xs' ++ rest') (hr : RdL m w xs' cs') (hlen : cs.length ≤ cs'.length) (hsize : vals'.size = vals.size)
    (hbear : ∀ (j sz : Nat) (es : List V) (s' : Nat) (v : Value), E.MB s = true → cs'[j]? = some (.sl false sz es (some s')) → vals'[j]? = some v → Bear E w β st (fun i => a.tmps.getD i Go.undef) v (.sl false sz es (some s'))) :
    Rel E n pm m0 w0 m β ⟨st.t, upd st.b s (some cs')⟩ a (w.setRow (β s) vals') := by
  obtain ⟨⟨hl, _⟩, hge⟩ := h.boxes s cs hs
  have he : Ext m w m (w.setRow (β s) vals') := by
    refine ⟨by simp, fun blk off v hb hm hc => ?_, fun blk hb fr hf => ⟨fr, hf, Nat.le_refl _⟩⟩
    have hne : blk ≠ β s := by
      rintro rfl
      have := hm 0 hl
      omega
    rw [cell_setRow_other w _ _ _ hne]
    exact hc
  refine ⟨fun i => (h.tmps i).mono he, h.size, fun s' c' hs' => ?_, fun s1 s2 c1 c2 h1 h2 heq => ?_, h.below.setRow hge _, h.par, h.mold, ?_, h.own.sub (fun i s' sz len c' hi hs' => ?_), h.defers, fun g => (h.glob g).mono he, h.j⟩
  rotate_right
  · simp only [upd_at] at hs'
    split at hs'
    · rename_i e
      cases hs'
      subst e
      exact ⟨i, cs, hi, rfl, hs, hlen, rfl, fun cur ty' hc => by rw [hh] at hc; cases hc; exact ⟨vals', ty, setRow_heap w _ _ _ _ _ hh, hsize⟩⟩
    · rename_i e
      exact ⟨i, c', hi, rfl, hs', Nat.le_refl _, rfl, fun cur ty' hc => ⟨cur, ty', by rw [setRow_other w _ _ _ (fun hb => e (h.inj s' s c' cs hs' hs hb))]; exact hc, rfl⟩⟩
  · simp only [upd_at] at hs'
    split at hs'
    · rename_i e
      cases hs'
      subst e
      exact ⟨⟨hl, vals', ty, xs', rest', setRow_heap w _ _ _ _ _ hh, hx', hr.mono he⟩, hge⟩
    · rename_i e
      obtain ⟨⟨hl', v', ty', xs1, rest1, hh', hx1, hr'⟩, hge'⟩ := h.boxes s' c' hs'
      refine ⟨⟨hl', v', ty', xs1, rest1, ?_, hx1, hr'.mono he⟩, hge'⟩
      rw [setRow_other w _ _ _ (fun hb => e (h.inj s' s c' cs hs' hs hb))]
      exact hh'
  · simp only [upd_at] at h1 h2
    split at h1 <;> split at h2
    · rename_i e1 e2; rw [e1, e2]
    · rename_i e1 e2; subst e1; exact h.inj _ _ _ _ hs h2 heq
    · rename_i e1 e2; subst e2; exact h.inj _ _ _ _ h1 hs heq
    · exact h.inj _ _ _ _ h1 h2 heq
  · obtain ⟨ρ, hrw⟩ := h.rows
    refine ⟨ρ, hrw.to (fun v sz es s' hi => hi.from (fun i hi => .inl ⟨i, hi, rfl⟩) (fun k c j h1 h2 h3 h4 => ?_)) (fun v sz es s' hi => ⟨setRow_other w _ _ _ (fun e => hrw.box _ _ _ _ _ _ hi hs e.symm), rfl⟩) (fun v sz es s' k c hi hk => ?_)⟩
    · have h2 : upd st.b s (some cs') k = some c := h2
      by_cases e : k = s
      · subst e
        rw [upd_same] at h2
        cases h2
        rw [Box.cell (setRow_heap w _ _ _ _ _ hh)] at h4
        exact hbear j sz es s' v h1 h3 h4
      · rw [upd_ne _ _ e] at h2
        have hne : β k ≠ β s := fun hb => e (h.inj _ _ _ _ h2 hs hb)
        rw [cell_setRow_other w _ _ _ hne] at h4
        exact .inr ⟨k, c, j, h1, h2, h3, h4⟩
    · have hk : upd st.b s (some cs') k = some c := hk
      by_cases e : k = s
      · subst e
        exact hrw.box _ _ _ _ _ _ hi hs
      · rw [upd_ne _ _ e] at hk
        exact hrw.box _ _ _ _ _ _ hi hk

theorem splice_get {α : Type} {l q : List α} {off : Nat} (h : off + q.length ≤ l.length) (j : Nat) : (l.take off ++ q ++ l.drop (off + q.length))[j]? = if j < off then l[j]? else if j < off + q.length then q[j - off]? else l[j]? := by
  have h1 : (l.take off).length = off := by rw [List.length_take]; omega
  by_cases c1 : j < off
  · rw [if_pos c1, List.append_assoc, List.getElem?_append_left (by omega), List.getElem?_take, if_pos c1]
  · rw [if_neg c1]
    by_cases c2 : j < off + q.length
    · rw [if_pos c2, List.getElem?_append_left (by rw [List.length_append]; omega), List.getElem?_append_right (by omega), h1]
    · rw [if_neg c2, List.getElem?_append_right (by rw [List.length_append]; omega), List.getElem?_drop, List.length_append, h1]
      congr 1
      omega
theorem bare_not {u : V} (h : u.bare.dat = true) : u.nm = none ∧ u ≠ .undef ∧ ∀ a, u ≠ .x (.agg a) := by
  rw [bare_eq] at h
  cases u <;> first | (simp [bare0, V.dat] at h; done) | (refine ⟨rfl, by simp, ?_⟩; intro a e; first | (cases e; simp [bare0, V.dat] at h; done) | cases e)
theorem storeV_sound (h : Rel E n pm m0 w0 m β st a w) {t : TypeId} {p v : Value} {q u : V} {st' : St} (hp : Rs m w β p q) (hv : Rs m w β v u)
    (hk : ∀ sz es s', u = .sl false sz es (some s') → Bear E w β st (fun i => a.tmps.getD i Go.undef) v u) (hx : storeV E st t q u = some st') :
    ∃ w', (Instr.storeAt t p v).run E.P w = .ok () w' ∧ Rel E n pm m0 w0 m β st' a w' := by
  unfold storeV at hx
  split at hx
  · rename_i s off
    split at hx
    · rename_i cs hcs
      split at hx
      · rename_i hc
        obtain ⟨hd, hone, hsz, hok, hle⟩ := hc
        cases hx
        obtain rfl := hp.ptr
        · obtain ⟨⟨_, vals, ty, xs, rest, hh, hvs, hr⟩, _⟩ := h.boxes _ _ hcs
          have hrd := dat_cells (hv.bare.dat hd) hd
          obtain ⟨hnm, hnu, hna⟩ := bare_not hd
          have hrk : RdL m w v.cells.toList (E.kept s u).cells := by
            unfold Env.kept
            split
            · exact (hv.rd hnm).cells hnu hna
            · exact hrd
          have hlen := hrd.length
          have hlenk := hrk.length
          have hlen2 := hr.length
          simp only [Array.length_toList] at hlen hlenk
          have hvl : vals.size = xs.length + rest.length := by rw [← Array.length_toList, hvs, List.length_append]
          have hst := run_storeCells_at E.P (β s) off ty v.cells.toList 0 vals w hh (by simp; omega) (cells_one hrd hone)
          have hvc : v.cells.toList.length = u.bare.cells.length := by simpa using hlen
          have hkc : (E.kept s u).cells.length = u.bare.cells.length := by omega
          refine ⟨_, ?_, h.store (vals' := (vals.toList.take (off + 0) ++ v.cells.toList ++ vals.toList.drop (off + 0 + v.cells.toList.length)).toArray) (xs' := xs.take off ++ v.cells.toList ++ xs.drop (off + u.bare.cells.length)) (rest' := rest) hcs hh ?_ ?_ ?_ ?_ ?_⟩
          · simp only [Instr.storeAt, Instr.sureAddr, storeVar, Sem.run_bind, Sem.run_pure, Result.andThen_ok, run_szB hsz]
            rw [if_neg (by omega)]
            exact hst
          · simp only [Nat.add_zero, hvc, hvs]
            rw [List.take_append_of_le_length (by omega), List.drop_append_of_le_length (by omega)]
            simp only [List.append_assoc]
          · exact ((hr.take off).append hrk).append (hr.drop (off + u.bare.cells.length))
          · simp only [List.length_append, List.length_take, List.length_drop]; omega
          · simp only [List.size_toArray, List.length_append, List.length_take, List.length_drop, hvc, Array.length_toList, Nat.add_zero]; omega
          · intro j sz es s' x hM hu hx
            rw [← hkc, splice_get (by omega)] at hu
            rw [List.getElem?_toArray, Nat.add_zero, splice_get (by have := Array.length_toList (xs := vals); omega)] at hx
            have hold : ∀ (hu : cs[j]? = some (.sl false sz es (some s'))) (hx : vals.toList[j]? = some x), Bear E w β st (fun i => a.tmps.getD i Go.undef) x (.sl false sz es (some s')) := fun hu hx =>
              .inr ⟨s, cs, j, hM, hcs, hu, by rw [Box.cell hh]; simpa using hx⟩
            split at hu
            · rename_i c1
              rw [if_pos c1] at hx
              exact hold hu hx
            · rename_i c1
              rw [if_neg c1] at hx
              split at hu
              · rename_i c2
                rw [if_pos (by omega)] at hx
                simp only [Env.kept, hM, if_true] at hu
                simp only [Env.okS, hM, Bool.not_true, Bool.false_or, Bool.or_eq_true] at hok
                rcases hok with hsl | hall
                · cases u with
                  | sl nl' sz' es' tok' =>
                    simp only [V.cells, List.getElem?_singleton] at hu
                    split at hu
                    · rename_i e0
                      have hu := Option.some.inj hu
                      obtain ⟨ad, cap, rfl, _, _⟩ := hv.sl
                      rw [e0] at hx
                      have hx : some (Value.slice ad es'.length cap) = some x := by simpa [Value.cells] using hx
                      cases hx
                      rw [hu] at hk
                      exact hk sz es s' rfl
                    · cases hu
                  | _ => cases hsl
                · have := List.all_eq_true.1 hall _ (List.mem_of_getElem? hu)
                  cases this
              · rename_i c2
                rw [if_neg (by omega)] at hx
                exact hold hu hx
      · simp at hx
    · simp at hx
  · simp at hx

theorem args_rd (h : Rel E n pm m0 w0 m β st a w) : ∀ (l : List Operand), (l.map fun x => (ev E st x).bare).all V.dat = true → RdL m w (l.map a.eval) (l.map fun x => (ev E st x).bare)
  | [], _ => trivial
  | x :: l, hd => by
    simp only [List.map_cons, List.all_cons, Bool.and_eq_true] at hd
    exact ⟨(ev_sound h x).bare.dat hd.1, args_rd h l hd.2⟩

theorem newV_sound (h : Rel E n pm m0 w0 m β st a w) {o : Oper} (hd : ∀ k, o.dst = some k → k < n) {cs : List V} {st' : St} (hx : newV st o.dst cs = some st') (hmb : E.okN o.dst cs = true)
    {vals : Array Value} {ty : TypeId} (hr : RdL m w vals.toList cs) : ∃ m' β', Rel E n pm m0 w0 m' β' st' (a.put o.dst (.pointer (some ⟨w.heap.size, 0, none⟩))) (w.alloc (.cells vals ty)) := by
  unfold newV at hx
  split at hx
  · rename_i s hs
    split at hx
    · rename_i hn
      cases hx
      rw [hs]
      exact ⟨_, _, h.new (hd s hs) hn hr (hs ▸ hmb)⟩
    · simp at hx
  · simp at hx

theorem bare_tok {v : Value} (u : V) (sz : Nat) (es : List V) (s : Nat) (h : u.bare = .sl false sz es (some s)) : Bear E w β st (fun i => a.tmps.getD i Go.undef) v u.bare := by
  rw [bare_eq] at h
  cases u <;> cases h

/-- The cells of a row, one behind the other. -/
structure Flat (m : Lim) (w : World) (cs : List Value) (sz : Nat) (es : List V) : Prop where
  len : cs.length = es.length * sz
  each : ∀ (i : Nat) (e : V), es[i]? = some e → e.cells.length = sz ∧ ∀ (j : Nat) (d : V), e.cells[j]? = some d → ∃ x, cs[i * sz + j]? = some x ∧ Rd m w x d

theorem lt_of_some {α : Type} {l : List α} {i : Nat} {x : α} (h : l[i]? = some x) : i < l.length := by
  rcases Nat.lt_or_ge i l.length with h' | h'
  · exact h'
  · simp [List.getElem?_eq_none h'] at h

theorem Flat.nil (sz : Nat) : Flat m w [] sz [] := ⟨by simp, fun i e h => by simp at h⟩
theorem Flat.mono {m' : Lim} {w' : World} (he : Ext m w m' w') {cs : List Value} {sz : Nat} {es : List V} (h : Flat m w cs sz es) : Flat m' w' cs sz es :=
  ⟨h.len, fun i e hi => ⟨(h.each i e hi).1, fun j d hd => by obtain ⟨x, hx, hr⟩ := (h.each i e hi).2 j d hd; exact ⟨x, hx, hr.mono he⟩⟩⟩
theorem mul_idx {i k sz j : Nat} (hi : i < k) (hj : j < sz) : i * sz + j < k * sz := by
  have : (i + 1) * sz ≤ k * sz := Nat.mul_le_mul_right _ hi
  rw [Nat.add_mul, Nat.one_mul] at this
  omega
theorem Flat.append {cs cs' : List Value} {sz : Nat} {es es' : List V} (h : Flat m w cs sz es) (h' : Flat m w cs' sz es') : Flat m w (cs ++ cs') sz (es ++ es') := by
  refine ⟨by simp [h.len, h'.len, Nat.add_mul], fun i e hi => ?_⟩
  rcases Nat.lt_or_ge i es.length with hlt | hge
  · rw [List.getElem?_append_left hlt] at hi
    obtain ⟨h1, h2⟩ := h.each i e hi
    refine ⟨h1, fun j d hd => ?_⟩
    obtain ⟨x, hx, hr⟩ := h2 j d hd
    exact ⟨x, by rw [List.getElem?_append_left (lt_of_some hx)]; exact hx, hr⟩
  · rw [List.getElem?_append_right hge] at hi
    obtain ⟨h1, h2⟩ := h'.each _ e hi
    refine ⟨h1, fun j d hd => ?_⟩
    obtain ⟨x, hx, hr⟩ := h2 j d hd
    have e1 : (i - es.length) * sz + es.length * sz = i * sz := by rw [← Nat.add_mul]; congr 1; omega
    refine ⟨x, ?_, hr⟩
    rw [List.getElem?_append_right (by rw [h.len]; omega), h.len, ← hx]
    congr 1
    omega
theorem Flat.one {cs : List Value} {sz : Nat} {es : List V} (h : Flat m w cs sz es) (ho : (es.all fun u => u.cells.all V.cell) = true) : ∀ v ∈ cs, v.oneCell' = true := by
  intro v hv
  obtain ⟨q, hq⟩ := List.getElem?_of_mem hv
  have hlt := lt_of_some hq
  rw [h.len] at hlt
  have hsz : 0 < sz := by
    rcases Nat.eq_zero_or_pos sz with h0 | h0
    · subst h0; simp at hlt
    · exact h0
  have hi : q / sz < es.length := (Nat.div_lt_iff_lt_mul hsz).2 hlt
  have he : es[q / sz]? = some es[q / sz] := List.getElem?_eq_getElem hi
  obtain ⟨h1, h2⟩ := h.each _ _ he
  have hj : q % sz < (es[q / sz]).cells.length := by rw [h1]; exact Nat.mod_lt _ hsz
  obtain ⟨x, hx, hr⟩ := h2 (q % sz) _ (List.getElem?_eq_getElem hj)
  have hqq : q / sz * sz + q % sz = q := by rw [Nat.mul_comm]; exact Nat.div_add_mod q sz
  rw [hqq, hq] at hx
  cases hx
  refine cell_one hr ?_
  have := List.all_eq_true.1 ho _ (List.mem_of_getElem? he)
  exact List.all_eq_true.1 this _ (List.getElem_mem hj)

theorem Rd.of_flat {cs : List Value} {sz : Nat} {es : List V} (h : Flat m w cs sz es) {g cap : Nat} {cur : Array Value} {ty : TypeId} {fr : Nat × Nat} (hh : w.heap[g]? = some (.cells cur ty fr))
    (hp : ∀ (j : Nat) (x : Value), cs[j]? = some x → cur[j]? = some x) (hcap : es.length ≤ cap) (hm : ∀ fr, m g = some fr → es.length * sz ≤ fr) (tok : Option Nat) : Rd m w (.slice (some ⟨g, 0, none⟩) es.length cap) (.sl false sz es tok) := by
  refine .sl g 0 cap sz es tok (fun j => (cs[j]?).getD Go.undef) (heap_lt hh) hcap (fun i e hi => (h.each i e hi).1) (fun k hk => ?_) (fun fr hf => by have := hm fr hf; omega) (fun i e hi j d hd => ?_)
  · have hlt : k < cs.length := by rw [h.len]; exact hk
    have hx : cs[k]? = some cs[k] := List.getElem?_eq_getElem hlt
    rw [Nat.zero_add, Box.cell hh, hp _ _ hx, hx]
    rfl
  · obtain ⟨x, hx, hr⟩ := (h.each i e hi).2 j d hd
    rw [hx]
    exact hr

theorem Rd.flat {v : Value} {nl : Bool} {sz : Nat} {es : List V} {tok : Option Nat} (h : Rd m w v (.sl nl sz es tok)) :
    (nl = true ∧ v = .slice none 0 0 ∧ es = []) ∨ (nl = false ∧ es = [] ∧ tok = none ∧ ∃ a cap, v = .slice (some a) 0 cap) ∨ ∃ blk off cap cs, nl = false ∧ v = .slice (some ⟨blk, off, none⟩) es.length cap ∧ Flat m w cs sz es ∧ ∀ (j : Nat) (x : Value), cs[j]? = some x → w.cell? ⟨blk, off + j, none⟩ = some x := by
  cases h with
  | nil sz tok => exact .inl ⟨rfl, rfl, rfl⟩
  | emp a cap sz => exact .inr (.inl ⟨rfl, rfl, rfl, a, cap, rfl⟩)
  | sl blk off cap sz es tok c hb hcap hsz hc hm hr =>
    refine .inr (.inr ⟨blk, off, cap, (List.range (es.length * sz)).map c, rfl, rfl, ⟨by simp, fun i e hi => ⟨hsz i e hi, fun j d hd => ?_⟩⟩, fun j x hx => ?_⟩)
    · have hj := lt_of_some hd
      rw [hsz i e hi] at hj
      have := mul_idx (lt_of_some hi) hj
      exact ⟨c (i * sz + j), by rw [List.getElem?_map, List.getElem?_range this]; rfl, hr i e hi j d hd⟩
    · have hlt := lt_of_some hx
      simp at hlt
      rw [List.getElem?_map, List.getElem?_range hlt] at hx
      cases hx
      exact hc j hlt

theorem strip_eq {k i sz s : Nat} {t : Nat → V} {nl : Bool} {es : List V} (h : strip k t i = .sl nl sz es (some s)) : t i = .sl nl sz es (some s) ∧ s ≠ k := by
  unfold strip at h
  rw [stripV_eq] at h
  unfold strip0 at h
  split at h
  · rename_i nl' sz' es' s' ht
    split at h
    · cases h
    · rename_i hne; cases h; exact ⟨ht, hne⟩
  · rename_i hne
    exact absurd h (hne _ _ _ _)

theorem strip_row {k i s z l : Nat} {t : Nat → V} (h : strip k t i = .row s z l) : t i = .row s z l := by
  unfold strip at h
  rw [stripV_eq] at h
  unfold strip0 at h
  split at h
  · split at h <;> cases h
  · exact h
theorem kill_is {k i : Nat} {t : Nat → V} {s : Nat} (h : (kill k t i).nm = some s) : kill k t i = t i ∧ s ≠ k := by
  unfold kill at h ⊢
  rcases killV_nm k (t i) with ⟨e, hn⟩ | ⟨e, hn⟩
  · refine ⟨e, fun e' => hn ?_⟩
    rw [← e, h, e']
  · rw [e] at h; cases h
theorem kill_sl {k i : Nat} {t : Nat → V} {nl : Bool} {sz : Nat} {es : List V} {s : Option Nat} (h : kill k t i = .sl nl sz es s) : t i = .sl nl sz es s := by
  unfold kill at h
  rcases killV_nm k (t i) with ⟨e, hn⟩ | ⟨e, hn⟩
  · rw [e] at h; exact h
  · rw [e] at h; cases h
theorem strip_strip (k : Nat) (t : Nat → V) : strip k (strip k t) = strip k t := by
  funext i
  simp only [strip, stripV_eq]
  generalize t i = v
  unfold strip0
  split
  · rename_i nl sz es s' hv
    split at hv
    · split at hv
      · cases hv
      · rename_i hne; cases hv; rw [if_neg hne]
    · rename_i hno; exact absurd hv (hno _ _ _ _)
  · rfl

theorem stripV_is {k : Nat} {u : V} {nl : Bool} {sz : Nat} {es : List V} {s : Nat} (h : stripV k u = .sl nl sz es (some s)) : u = .sl nl sz es (some s) ∧ s ≠ k := by
  rw [stripV_eq] at h
  unfold strip0 at h
  split at h
  · split at h
    · cases h
    · rename_i hne; cases h; exact ⟨rfl, hne⟩
  · rename_i hne
    exact absurd h (hne _ _ _ _)
theorem stripB_is {k s : Nat} {b : Nat → Option (List V)} {c' : List V} (h : stripB E k b s = some c') : ∃ c, b s = some c ∧ c.length = c'.length ∧ (c' = c ∨ E.MB s = true ∧ c' = c.map (stripV k)) := by
  unfold stripB at h
  split at h
  · rename_i hM
    obtain ⟨c, hc, rfl⟩ := Option.map_eq_some_iff.1 h
    exact ⟨c, hc, by simp, .inr ⟨hM, rfl⟩⟩
  · exact ⟨c', h, rfl, .inl rfl⟩
theorem stripB_of {k s : Nat} {b : Nat → Option (List V)} {c : List V} (h : b s = some c) : ∃ c', stripB E k b s = some c' ∧ c.length = c'.length := by
  unfold stripB
  split
  · exact ⟨c.map (stripV k), by rw [h]; rfl, by simp⟩
  · exact ⟨c, h, rfl⟩
theorem RdL.stripL {k : Nat} : ∀ {vs : List Value} {us : List V}, RdL m w vs us → RdL m w vs (us.map (stripV k))
  | [], [], _ => trivial
  | _ :: _, _ :: _, h => ⟨h.1.strip, RdL.stripL h.2⟩
theorem Bear.stripped {tm : Nat → Value} {k : Nat} {v : Value} {sz : Nat} {es : List V} {s : Nat} (h : Bear E w β ⟨strip k st.t, stripB E k st.b⟩ tm v (.sl false sz es (some s))) :
    Bear E w β st tm v (.sl false sz es (some s)) ∧ s ≠ k := by
  rcases h with ⟨i, h1, h2⟩ | ⟨k', c', j, h1, h2, h3, h4⟩
  · obtain ⟨h3, h4⟩ := strip_eq h1
    exact ⟨.inl ⟨i, h3, h2⟩, h4⟩
  · have h2 : stripB E k st.b k' = some c' := h2
    simp only [stripB, h1, if_true] at h2
    obtain ⟨c, hc, rfl⟩ := Option.map_eq_some_iff.1 h2
    rw [List.getElem?_map] at h3
    obtain ⟨u0, hu0, he⟩ := Option.map_eq_some_iff.1 h3
    obtain ⟨rfl, hne⟩ := stripV_is he
    exact ⟨.inr ⟨k', c, j, h1, hc, hu0, h4⟩, hne⟩
theorem stripB_strip (E : Env) (k : Nat) (b : Nat → Option (List V)) : stripB E k (stripB E k b) = stripB E k b := by
  funext s
  unfold stripB
  split
  · rename_i hM
    cases b s with
    | none => rfl
    | some c =>
      simp only [Option.map_some, List.map_map]
      congr 1
      refine List.map_congr_left (fun u _ => ?_)
      have := congrFun (strip_strip k (fun _ => u)) 0
      exact this
  · rfl
theorem Rel.stripped (h : Rel E n pm m0 w0 m β st a w) (k : Nat) : Rel E n pm m0 w0 m β ⟨Go.Proofs.YtfmdcgakkijkdaaGreatDoor.strip k st.t, stripB E k st.b⟩ a w := by
  refine ⟨fun i => (h.tmps i).strip, h.size, fun s c' hs => ?_, fun s s' c c' h1 h2 he => ?_, h.below, h.par, h.mold, ?_, fun i s sz len c' hi hs => ?_, h.defers, h.glob, h.j⟩
  · obtain ⟨c, hc, hl, hor⟩ := stripB_is hs
    obtain ⟨⟨hlim, vals, ty, xs, rest, hh, hx, hr⟩, hge⟩ := h.boxes s c hc
    refine ⟨⟨hlim, vals, ty, xs, rest, hh, hx, ?_⟩, hge⟩
    rcases hor with rfl | ⟨_, rfl⟩
    · exact hr
    · exact hr.stripL
  · obtain ⟨_, hc, _⟩ := stripB_is h1
    obtain ⟨_, hc', _⟩ := stripB_is h2
    exact h.inj _ _ _ _ hc hc' he
  · obtain ⟨ρ, hr⟩ := h.rows
    refine ⟨ρ, hr.to (fun v sz es s hi => hi.stripped.1) (fun _ _ _ _ _ => ⟨rfl, rfl⟩) (fun v sz es s k' c hi hk => ?_)⟩
    obtain ⟨_, hc, _⟩ := stripB_is hk
    exact hr.box _ _ _ _ _ _ hi hc
  · obtain ⟨c, hc, hl, _⟩ := stripB_is hs
    obtain ⟨hf, rest⟩ := h.own i s sz len c (strip_row hi) hc
    exact ⟨by omega, rest⟩
theorem Rel.grown (h : Rel E n pm m0 w0 m β st a w) {ρ : Nat → Nat} (hrw : Rows E m w0 w β st (fun i => a.tmps.getD i Go.undef) ρ) {d k g' sz : Nat} (hd : d < n) {v' : Value} {es' : List V} {m' : Lim} {w' : World} (he : Ext m w m' w')
    (hbel : Bel pm.X w0 w') (hother : ∀ g, g < w.heap.size → g ≠ g' → w'.heap[g]? = w.heap[g]? ∧ m' g = m g) (hrow : RowAt m' w0 w' v' g' sz es'.length) (hrd : Rd m' w' v' (.sl false sz es' (some d)))
    (hfree : ∀ v sz es s, Bear E w β ⟨strip k (strip d st.t), stripB E k (stripB E d st.b)⟩ (fun i => a.tmps.getD i Go.undef) v (.sl false sz es (some s)) → ρ s ≠ g') (hbox : ∀ s cs, st.b s = some cs → β s ≠ g') :
    Rel E n pm m0 w0 m' β ⟨upd (strip k (strip d st.t)) d (.sl false sz es' (some d)), stripB E k (stripB E d st.b)⟩ (a.put (some d) v') w' := by
  have hlt : d < a.tmps.size := by rw [h.size]; exact hd
  have hS := (h.stripped d).stripped k
  have hSb : ∀ {s : Nat} {c' : List V}, stripB E k (stripB E d st.b) s = some c' → ∃ c, st.b s = some c ∧ c.length = c'.length := fun hs => by
    obtain ⟨c1, h1, l1, _⟩ := stripB_is hs
    obtain ⟨c, h2, l2, _⟩ := stripB_is h1
    exact ⟨c, h2, l2.trans l1⟩
  have hst : ∀ {v : Value} {sz0 : Nat} {es0 : List V} {s : Nat}, Bear E w β ⟨strip k (strip d st.t), stripB E k (stripB E d st.b)⟩ (fun i => a.tmps.getD i Go.undef) v (.sl false sz0 es0 (some s)) → Bear E w β st (fun i => a.tmps.getD i Go.undef) v (.sl false sz0 es0 (some s)) ∧ s ≠ d := fun hi => by
    obtain ⟨h1, _⟩ := hi.stripped (st := ⟨strip d st.t, stripB E d st.b⟩)
    exact h1.stripped
  have key : ∀ {v : Value} {sz0 : Nat} {es0 : List V} {s : Nat}, Bear E w' β ⟨upd (strip k (strip d st.t)) d (.sl false sz es' (some d)), stripB E k (stripB E d st.b)⟩ (fun i => (a.put (some d) v').tmps.getD i Go.undef) v (.sl false sz0 es0 (some s)) →
      (s = d ∧ v = v' ∧ sz0 = sz ∧ es0 = es') ∨ Bear E w β ⟨strip k (strip d st.t), stripB E k (stripB E d st.b)⟩ (fun i => a.tmps.getD i Go.undef) v (.sl false sz0 es0 (some s)) := fun {v sz0 es0 s} hi => by
    rcases hi with ⟨i, h1, h2⟩ | ⟨k', c', j, h1, h2, h3, h4⟩
    · simp only [upd_at] at h1
      simp only [Act.put, getD_set _ _ _ _ hlt] at h2
      split at h1
      · rename_i e
        rw [if_pos e] at h2
        cases h1
        exact .inl ⟨rfl, h2.symm, rfl, rfl⟩
      · rename_i e
        rw [if_neg e] at h2
        exact .inr (.inl ⟨i, h1, h2⟩)
    · obtain ⟨c, hc, _⟩ := hSb h2
      obtain ⟨⟨_, vals, ty, xs, rest, hh, _, _⟩, _⟩ := h.boxes _ _ hc
      rw [cell_block (hother _ (heap_lt hh) (hbox _ _ hc)).1] at h4
      exact .inr (.inr ⟨k', c', j, h1, h2, h3, h4⟩)
  refine ⟨fun i => ?_, by simp [Act.put, h.size], fun s cs hs => ?_, hS.inj, hbel, h.par, fun blk hb => ?_, ⟨upd ρ d g', fun v sz0 es0 s hi => ?_, fun v sz0 es0 s v1 sz1 es1 s' hi hi' hr => ?_, fun v sz0 es0 s k' cs hi hk' => ?_⟩, hS.own.sub (fun i s sz0 len cs hi hs => ?_), h.defers, fun g => (h.glob g).mono he, h.j⟩
  rotate_right
  · simp only [upd_at] at hi
    simp only [Act.put, getD_set _ _ _ _ hlt]
    split at hi
    · cases hi
    · rename_i e
      obtain ⟨c, hc, _⟩ := hSb hs
      refine ⟨i, cs, hi, by rw [if_neg e], hs, Nat.le_refl _, trivial, fun cur ty hh => ⟨cur, ty, ?_, rfl⟩⟩
      rw [(hother _ (heap_lt hh) (hbox s c hc)).1]
      exact hh
  · simp only [Act.put, getD_set _ _ _ _ hlt, upd_at]
    split
    · exact .of hrd
    · exact ((h.tmps i).mono he).strip.strip
  · obtain ⟨c, hc, _⟩ := hSb hs
    obtain ⟨⟨hl, vals, ty, xs, rest, hh, hx, hr⟩, hge⟩ := hS.boxes s cs hs
    obtain ⟨h1, h2⟩ := hother _ (heap_lt hh) (hbox s c hc)
    exact ⟨⟨by rw [h2]; exact hl, vals, ty, xs, rest, by rw [h1]; exact hh, hx, hr.mono he⟩, hge⟩
  · have := hrow.lo
    rw [(hother blk (Nat.lt_of_lt_of_le hb h.below.size) (by omega)).2]
    exact h.mold blk hb
  · rcases key hi with ⟨rfl, rfl, rfl, rfl⟩ | hi
    · rw [upd_same]
      exact hrow
    · obtain ⟨h1, h2⟩ := hst hi
      rw [upd_ne _ _ h2]
      obtain ⟨lo, lim, cap, cur, ty, hv, hh, hc, hs⟩ := hrw.row v sz0 es0 s h1
      obtain ⟨h3, h4⟩ := hother _ (heap_lt hh) (hfree _ _ _ _ hi)
      exact ⟨lo, by rw [h4]; exact lim, cap, cur, ty, hv, by rw [h3]; exact hh, hc, hs⟩
  · have k1 := key hi
    have k2 := key hi'
    clear hi hi'
    rcases k1 with ⟨e1, _⟩ | k1
    · rcases k2 with ⟨e2, _⟩ | k2
      · rw [e1, e2]
      · obtain ⟨h1, h2⟩ := hst k2
        rw [e1, upd_same, upd_ne _ _ h2] at hr
        exact absurd hr.symm (hfree _ _ _ _ k2)
    · rcases k2 with ⟨e2, _⟩ | k2
      · obtain ⟨h1, h2⟩ := hst k1
        rw [e2, upd_same, upd_ne _ _ h2] at hr
        exact absurd hr (hfree _ _ _ _ k1)
      · rw [upd_ne _ _ (hst k1).2, upd_ne _ _ (hst k2).2] at hr
        exact hrw.sep _ _ _ _ _ _ _ _ (hst k1).1 (hst k2).1 hr
  · obtain ⟨c, hc, _⟩ := hSb hk'
    rcases key hi with ⟨rfl, rfl, rfl, rfl⟩ | hi
    · rw [upd_same]
      exact hbox _ _ hc
    · rw [upd_ne _ _ (hst hi).2]
      exact hrw.box _ _ _ _ _ _ (hst hi).1 hc

/-- A row of the call's own that may be written grows: its variable is the new slot's. -/
theorem Rel.regrow (h : Rel E n pm m0 w0 m β st a w) {ρ : Nat → Nat} (hrw : Rows E m w0 w β st (fun i => a.tmps.getD i Go.undef) ρ) {d s : Nat} (hd : d < n) (hmb : E.MB d = false) {cs : List V} (_hcs : st.b s = some cs) {g' len sz cap : Nat} {cur' : Array Value} {ty' : TypeId} {xs' rest' : List Value} {cs' : List V} {m' : Lim} {w' : World}
    (he : Ext m w m' w') (hbel : Bel pm.X w0 w') (hother : ∀ g, g < w.heap.size → g ≠ g' → w'.heap[g]? = w.heap[g]? ∧ m' g = m g) (hlo : w0.heap.size ≤ g' ∨ g' ∈ pm.X ∧ m g' = some 0) (hlim : m' g' = some 0)
    (hh' : w'.heap[g']? = some (.cells cur' ty' (0, 0))) (hx : cur'.toList = xs' ++ rest') (hr : RdL m' w' xs' cs') (hl : len * sz ≤ cs'.length) (hcap : len ≤ cap) (hsz : cur'.size = cap * sz)
    (hfree : ∀ v sz es s', Bear E w β st (fun i => a.tmps.getD i Go.undef) v (.sl false sz es (some s')) → ρ s' ≠ g') (hbox : ∀ s' c', st.b s' = some c' → s' ≠ s → β s' ≠ g') :
    Rel E n pm m0 w0 m' (upd β d g') ⟨upd (kill s (kill d st.t)) d (.row d sz len), upd (upd st.b s none) d (some cs')⟩ (a.put (some d) (.slice (some ⟨g', 0, none⟩) len cap)) w' := by
  have hlt : d < a.tmps.size := by rw [h.size]; exact hd
  have hnm : ∀ {i s' : Nat}, (kill s (kill d st.t) i).nm = some s' → kill s (kill d st.t) i = st.t i ∧ s' ≠ s ∧ s' ≠ d := fun {i s'} hi => by
    obtain ⟨h1, h2⟩ := kill_is hi
    rw [h1] at hi
    obtain ⟨h3, h4⟩ := kill_is hi
    exact ⟨h1.trans h3, h2, h4⟩
  have hb' : ∀ {s' : Nat} {c' : List V}, upd (upd st.b s none) d (some cs') s' = some c' → s' ≠ d → st.b s' = some c' ∧ s' ≠ s := fun {s' c'} hs hne => by
    rw [upd_ne _ _ hne, upd_at] at hs
    split at hs
    · cases hs
    · rename_i e; exact ⟨hs, e⟩
  refine ⟨fun i => ?_, by simp [Act.put, h.size], fun s' c' hs' => ?_, fun s1 s2 c1 c2 h1 h2 heq => ?_, hbel, ⟨h.par.1, fun s' hs' => (upd_ne _ _ (by have := h.par.1; omega)).trans (h.par.2.1 s' hs'), h.par.2.2⟩, fun blk hb => ?_, ⟨ρ, hrw.to (fun v sz0 es0 s' hi => hi.from (fun i hi => ?_) (fun k' c' j h1 h2 h3 h4 => ?_)) (fun v sz0 es0 s' hi => ?_) (fun v sz0 es0 s' k' c' hi hk' => ?_)⟩, fun i s' sz0 len0 c' hi hs' => ?_, h.defers, fun g => (h.glob g).mono he, h.j⟩
  · simp only [Act.put, getD_set _ _ _ _ hlt, upd_at (kill s (kill d st.t))]
    split
    · have := Rs.ofRow (m := m') (w := w') (β := upd β d g') d sz hcap
      rwa [upd_same] at this
    · exact (((h.tmps i).mono he).kill.kill).beta (fun s' hs' => upd_ne _ _ (hnm hs').2.2)
  · by_cases hne : s' = d
    · subst hne
      have hs' : upd (upd st.b s none) s' (some cs') s' = some c' := hs'
      rw [upd_same] at hs'
      cases hs'
      rw [upd_same]
      exact ⟨⟨hlim, cur', ty', xs', rest', hh', hx, hr⟩, hlo.imp id And.left⟩
    · obtain ⟨h1, h2⟩ := hb' hs' hne
      rw [upd_ne _ _ hne]
      obtain ⟨⟨hl', vals, ty, xs, rest, hh, hx', hr'⟩, hge⟩ := h.boxes s' c' h1
      obtain ⟨h3, h4⟩ := hother _ (heap_lt hh) (hbox s' c' h1 h2)
      exact ⟨⟨by rw [h4]; exact hl', vals, ty, xs, rest, by rw [h3]; exact hh, hx', hr'.mono he⟩, hge⟩
  · by_cases e1 : s1 = d <;> by_cases e2 : s2 = d
    · rw [e1, e2]
    · obtain ⟨h3, h4⟩ := hb' h2 e2
      rw [e1, upd_same, upd_ne _ _ e2] at heq
      exact absurd heq.symm (hbox _ _ h3 h4)
    · obtain ⟨h3, h4⟩ := hb' h1 e1
      rw [e2, upd_same, upd_ne _ _ e1] at heq
      exact absurd heq (hbox _ _ h3 h4)
    · rw [upd_ne _ _ e1, upd_ne _ _ e2] at heq
      exact h.inj _ _ _ _ (hb' h1 e1).1 (hb' h2 e2).1 heq
  · by_cases hbg : blk = g'
    · rcases hlo with hlo | ⟨_, hm0⟩
      · omega
      · rw [hbg, hlim, ← hm0, ← hbg]
        exact h.mold blk hb
    · rw [(hother blk (Nat.lt_of_lt_of_le hb h.below.size) hbg).2]
      exact h.mold blk hb
  · simp only [upd_at] at hi
    simp only [Act.put, getD_set _ _ _ _ hlt]
    split at hi
    · cases hi
    · rename_i e
      rw [if_neg e]
      exact .inl ⟨i, kill_sl (kill_sl hi), rfl⟩
  · have hne : k' ≠ d := fun e => by rw [e, hmb] at h1; cases h1
    obtain ⟨h5, h6⟩ := hb' h2 hne
    rw [upd_ne _ _ hne] at h4
    obtain ⟨⟨_, vals, ty, xs, rest, hh, _, _⟩, _⟩ := h.boxes _ _ h5
    rw [cell_block (hother _ (heap_lt hh) (hbox _ _ h5 h6)).1] at h4
    exact .inr ⟨k', c', j, h1, h5, h3, h4⟩
  · obtain ⟨lo, lim, cap, cur, ty, hv, hh, hc, hs⟩ := hrw.row v sz0 es0 s' hi
    exact hother _ (heap_lt hh) (hfree _ _ _ _ hi)
  · by_cases e : k' = d
    · rw [e, upd_same]; exact (hfree _ _ _ _ hi).symm
    · rw [upd_ne _ _ e]
      exact hrw.box _ _ _ _ _ _ hi (hb' hk' e).1
  · simp only [upd_at (kill s (kill d st.t))] at hi
    simp only [Act.put, getD_set _ _ _ _ hlt]
    split at hi
    · rename_i e
      cases hi
      have hs' : upd (upd st.b s none) d (some cs') d = some c' := hs'
      rw [upd_same] at hs'
      cases hs'
      rw [if_pos e]
      exact ⟨hl, cap, cur', ty', by rw [upd_same], by rw [upd_same]; exact hh', hsz⟩
    · rename_i e
      rw [if_neg e]
      obtain ⟨h1, h2, h3⟩ := hnm (show (kill s (kill d st.t) i).nm = some s' by rw [hi]; rfl)
      obtain ⟨h4, _⟩ := hb' hs' h3
      obtain ⟨hl', cap1, cur, ty, hv, hh, hsz'⟩ := h.own i s' sz0 len0 c' (h1 ▸ hi) h4
      refine ⟨hl', cap1, cur, ty, by rw [upd_ne _ _ h3]; exact hv, ?_, hsz'⟩
      rw [upd_ne _ _ h3, (hother _ (heap_lt hh) (hbox _ _ h4 h2)).1]
      exact hh

theorem Ext.fresh (m : Lim) (w : World) (o : Obj) (x : Option Nat) : Ext m w (upd m w.heap.size x) (w.drew.alloc o) := by
  refine ⟨by simp, fun blk off v hb _ hc => ?_, fun blk hb fr hf => ?_⟩
  · have := World.cell?_alloc_lt w.drew o ⟨blk, off, none⟩ hb
    rw [this]; exact hc
  · simp only [upd] at hf; rw [if_neg (Nat.ne_of_lt hb)] at hf; exact ⟨fr, hf, Nat.le_refl _⟩
theorem Ext.fresh0 (m : Lim) (w : World) (o : Obj) (x : Option Nat) : Ext m w (upd m w.heap.size x) (w.alloc o) := by
  refine ⟨by simp, fun blk off v hb _ hc => ?_, fun blk hb fr hf => ?_⟩
  · rw [World.cell?_alloc_lt _ _ _ hb]; exact hc
  · simp only [upd] at hf; rw [if_neg (Nat.ne_of_lt hb)] at hf; exact ⟨fr, hf, Nat.le_refl _⟩

theorem run_room {P : Program} (w : World) (t ty el : TypeId) (i : TypeInfo) (ht : P.underlying t = some (.slice el)) (hi : P.info? el = some i) (g sLen sCap : Nat) (cur : Array Value) (ty' : TypeId)
    (hg : w.heap[g]? = some (.cells cur ty' (0, 0))) (x : Value) (k : Nat) (news : List Value) (hx : (Builtin.lenOf x).run P w = .ok k w) (hf : (Builtin.firstCells i.size k x).run P w = .ok news.toArray w)
    (h1 : ∀ u ∈ news, u.oneCell' = true) (hroom : sLen + k ≤ sCap) (hfit : sLen * i.size + news.length ≤ cur.size) :
    (Builtin.append_ #[t, t] ty #[.slice (some ⟨g, 0, none⟩) sLen sCap, x]).run P w = .ok (.slice (some ⟨g, 0, none⟩) (sLen + k) sCap) (w.setRow g (cur.toList.take (sLen * i.size) ++ news ++ cur.toList.drop (sLen * i.size + news.length)).toArray) := by
  have hst := run_storeCells_at P g (sLen * i.size) ty' news 0 cur w hg (by omega) h1
  simp only [Nat.add_zero] at hst
  have hsz : szB P el = some i.size := by simp [szB, hi]
  simp [Builtin.append_, run_und ht, run_szB hsz, hx, hroom, hf, Addr_add_eq, hst]

theorem info_of {P : Program} {t : TypeId} {n : Nat} (h : szB P t = some n) : ∃ i, P.info? t = some i ∧ i.size = n := by
  unfold szB at h
  cases hi : P.info? t with
  | none => simp [hi] at h
  | some i => simp [hi] at h; exact ⟨i, rfl, h⟩

theorem zero_of {P : Program} {t : TypeId} {i : TypeInfo} {z : List V} (hi : P.info? t = some i) (h : zeroB P t = some z) : ∃ v : Value, i.zero = some v ∧ v.cells.size = z.length := by
  unfold zeroB at h
  simp only [hi, Option.bind_some, Option.map_eq_some_iff] at h
  obtain ⟨v, hv, rfl⟩ := h
  exact ⟨v, hv, by simp⟩

theorem src_of {P : Program} {y : Value} {nl : Bool} {sz sz0 : Nat} {es : List V} {tok : Option Nat} (h : Rd m w y (.sl nl sz0 es tok)) (hs : sz0 = sz ∨ es = []) :
    ∃ cs, Flat m w cs sz es ∧ (Builtin.lenOf y).run P w = .ok es.length w ∧ (Builtin.firstCells sz es.length y).run P w = .ok cs.toArray w ∧
      (es ≠ [] → ∃ blk off cap, y = .slice (some ⟨blk, off, none⟩) es.length cap ∧ ∀ (j : Nat) (x : Value), cs[j]? = some x → w.cell? ((⟨blk, off, none⟩ : Addr).add j) = some x) := by
  rcases h.flat with ⟨_, rfl, rfl⟩ | ⟨_, rfl, _, a, cap, rfl⟩ | ⟨blk, off, cap, cs, _, rfl, hf, hc⟩
  · exact ⟨[], Flat.nil sz, rfl, by simpa using run_firstCells_none (P := P) w sz 0 0 0, fun h => absurd rfl h⟩
  · exact ⟨[], Flat.nil sz, rfl, run_firstCells_some w sz 0 _ _ _ [] (by simp) (by simp), fun h => absurd rfl h⟩
  · by_cases he : es = []
    · subst he
      exact ⟨[], Flat.nil sz, rfl, run_firstCells_some w sz 0 _ _ _ [] (by simp) (by simp), fun h => absurd rfl h⟩
    · obtain rfl := hs.resolve_right he
      have hc' : ∀ (j : Nat) (x : Value), cs[j]? = some x → w.cell? ((⟨blk, off, none⟩ : Addr).add j) = some x := fun j x hx => by rw [Addr_add_eq]; exact hc j x hx
      exact ⟨cs, hf, rfl, run_firstCells_some w _ _ _ _ _ cs hf.len hc', fun _ => ⟨blk, off, cap, rfl, hc'⟩⟩

theorem ev_tok {sx : Operand} {nl : Bool} {sz k : Nat} {es : List V} (h : ev E st sx = .sl nl sz es (some k)) : ∃ i, sx = .tmp i ∧ st.t i = .sl nl sz es (some k) := by
  cases sx with
  | tmp i => exact ⟨i, rfl, h⟩
  | const v => simp only [ev, ofVal] at h; split at h <;> cases h
  | global g => simp only [ev, bare_eq] at h; generalize E.G g = u at h; cases u <;> cases h
  | func f => cases h

theorem ev_row (h : Rel E n pm m0 w0 m β st a w) {sx : Operand} {s sz len : Nat} (he : ev E st sx = .row s sz len) : ∃ i, sx = .tmp i ∧ st.t i = .row s sz len := by
  cases sx with
  | tmp i => exact ⟨i, rfl, he⟩
  | const v => simp only [ev, ofVal] at he; split at he <;> cases he
  | global g => simp only [ev, bare_eq] at he; have := h.glob g; generalize E.G g = u at he this; cases u <;> first | exact this.not_row.elim | cases he
  | func f => cases he
theorem rdl_of_flat {n : Nat} : ∀ (es : List V) (cs : List Value), Flat m w cs n es → RdL m w cs (es.flatMap V.cells)
  | [], cs, h => by
    have := h.len
    simp at this
    subst this
    trivial
  | e :: es, cs, h => by
    have hlen := h.len
    simp only [List.length_cons, Nat.add_mul, Nat.one_mul] at hlen
    obtain ⟨hn, hc⟩ := h.each 0 e rfl
    have h1 : RdL m w (cs.take n) e.cells := RdL.of_get (by simp; omega) (fun j v d hv hd => by
      obtain ⟨x, hx, hr⟩ := hc j d hd
      rw [List.getElem?_take] at hv
      split at hv
      · rw [Nat.zero_mul, Nat.zero_add] at hx
        rw [hx] at hv
        cases hv
        exact hr
      · cases hv)
    have h2 := rdl_of_flat es (cs.drop n) ⟨by simp; omega, fun i u hu => ⟨(h.each (i + 1) u (by simpa using hu)).1, fun j d hd => by
      obtain ⟨x, hx, hr⟩ := (h.each (i + 1) u (by simpa using hu)).2 j d hd
      refine ⟨x, ?_, hr⟩
      rw [List.getElem?_drop, ← hx, Nat.add_mul]
      congr 1
      omega⟩⟩
    rw [List.flatMap_cons, ← List.take_append_drop n cs]
    exact h1.append h2

theorem growV_sound (h : Rel E n pm m0 w0 m β st a w) {dst : Option Tmp} (hd : ∀ k, dst = some k → k < n) {sx sy : Operand} {t ty el : TypeId} {st' : St} (hu : E.P.underlying t = some (.slice el))
    (hg : growV E st dst el (ev E st sx) (ev E st sy) = some st') : ∃ v w' m' β', (Builtin.append_ #[t, t] ty #[a.eval sx, a.eval sy]).run E.P w = .ok v w' ∧ Rel E n pm m0 w0 m' β' st' (a.put dst v) w' := by
  have hx := ev_sound h sx
  have hy := ev_sound h sy
  obtain ⟨ρ, hrw⟩ := h.rows
  have hρlt : ∀ {v : Value} {sz0 : Nat} {es0 : List V} {s : Nat}, Bear E w β st (fun i => a.tmps.getD i Go.undef) v (.sl false sz0 es0 (some s)) → ρ s < w.heap.size := fun hi => by
    obtain ⟨_, _, _, _, _, _, hh, _⟩ := hrw.row _ _ _ _ hi
    exact heap_lt hh
  have hβlt : ∀ {s : Nat} {cs : List V}, st.b s = some cs → β s < w.heap.size := fun hs => by
    obtain ⟨⟨_, _, _, _, _, hh, _⟩, _⟩ := h.boxes _ _ hs
    exact heap_lt hh
  unfold growV at hg
  split at hg
  · rename_i d sz by' z hsz hby hz
    obtain ⟨i, hi, rfl⟩ := info_of hsz
    have hbi : i.bytes = by' := by simpa [byB, hi] using hby
    obtain ⟨zv, hzv, hzs⟩ := zero_of hi hz
    subst hbi
    have hdn : d < n := hd d rfl
    split at hg
    · rename_i sz0 tok0 nl' sz' es' tok' hA hB
      split at hg
      · rename_i hc
        obtain ⟨hn0, hzl, hs', hone, hby1, hmax⟩ := hc
        cases hg
        rw [hA] at hx
        rw [hB] at hy
        obtain ⟨k', hk', hkb⟩ : ∃ k', stripO tok0 (strip d st.t) = strip k' (strip d st.t) ∧ stripBO E tok0 (stripB E d st.b) = stripB E k' (stripB E d st.b) := by
          cases tok0 with
          | none => exact ⟨d, (strip_strip _ _).symm, (stripB_strip _ _ _).symm⟩
          | some k => exact ⟨k, rfl, rfl⟩
        rw [hk', hkb]
        rcases (hx.rd (by intros; simp)).flat with ⟨_, hxv, _⟩ | ⟨hf, _⟩ | ⟨_, _, _, _, hf, _⟩
        · rw [hxv]
          obtain ⟨cs, hflat, hlen, hfc, hsrc⟩ := src_of (P := E.P) (hy.rd (by intros; simp)) hs'
          by_cases he : es' = []
          · subst he
            refine ⟨.slice none 0 0, w, m, β, ?_, ((h.stripped d).stripped k').put (d := some d) (fun k e => hd k e) (.of (.nil _ _)) (fun sz es s e => by cases e) (fun s sz len cs e => by cases e)⟩
            have hcs : cs = [] := by have := hflat.len; simpa using this
            subst hcs
            simp at hlen hfc
            simp [Builtin.append_, run_und hu, run_szB hsz, hlen, hfc]
          · obtain ⟨blk, off, cap, hyv, hcell⟩ := hsrc he
            rw [hyv]
            have hpos : 0 < es'.length := List.length_pos_iff.2 he
            have hrun := run_append_nil (P := E.P) w t ty el i zv hu hi hzv _ es'.length cap cs hflat.len hcell hpos (by omega) (by omega)
            have hge := grownCap_ge w es'.length 0 el
            have hext := Ext.fresh m w (.cells (cs.toArray ++ Builtin.zeroCells zv.cells (grownCap w es'.length 0 el - es'.length)) el) (some (es'.length * i.size))
            have hhp : (w.drew.alloc (.cells (cs.toArray ++ Builtin.zeroCells zv.cells (grownCap w es'.length 0 el - es'.length)) el)).heap[w.heap.size]? = some (.cells (cs.toArray ++ Builtin.zeroCells zv.cells (grownCap w es'.length 0 el - es'.length)) el) := World.heap_new w.drew _
            refine ⟨_, _, upd m w.heap.size (some (es'.length * i.size)), β, hrun, ?_⟩
            have hemp : es'.isEmpty = false := by simpa using he
            rw [hemp]
            have hg := h.grown hrw (d := d) (k := k') (g' := w.heap.size) (sz := i.size) (es' := es') hdn hext
              (h.below.drew.alloc h.below.size _) (fun g hg hne => ⟨by rw [Below.heap_alloc w.drew _ g hg]; rfl, upd_ne _ _ hne⟩)
              ⟨h.below.size, upd_same _ _ _, _, _, _, rfl, hhp, hge, by
                rw [Array.size_append, size_zeroCells]
                simp only [List.size_toArray, hflat.len, hzs, hzl]
                rw [← Nat.add_mul]; congr 1; omega⟩
              (Rd.of_flat (hflat.mono hext) hhp (fun j x hj => by rw [Array.getElem?_append_left (by simpa using lt_of_some hj)]; simpa using hj) hge (fun fr hf => by rw [upd_same] at hf; cases hf; exact Nat.le_refl _) _)
              (fun v0 sz0 es0 s hi' => Nat.ne_of_lt (hρlt (Bear.stripped (Bear.stripped (st := ⟨strip d st.t, stripB E d st.b⟩) hi').1).1)) (fun s cs hs => Nat.ne_of_lt (hβlt hs))
            exact hg
        · cases hf
        · cases hf
      · cases hg
    · rename_i sz es k nl' sz' es' tok' hA hB
      split at hg
      · rename_i hc
        obtain ⟨hn0, hzl, rfl, hs', hone, hby1, hmax⟩ := hc
        cases hg
        obtain ⟨ix, rfl, hix⟩ := ev_tok hA
        have hbx : Bear E w β st (fun i => a.tmps.getD i Go.undef) (a.tmps.getD ix Go.undef) _ := Bear.slot (tm := fun i => a.tmps.getD i Go.undef) hix
        obtain ⟨hlo, hlim, cap0, cur, tyc, hxv, hh, hcap, hcs⟩ := hrw.row _ _ _ _ hbx
        rw [hA] at hx
        rw [hB] at hy
        have hxv' : a.eval (.tmp ix) = .slice (some ⟨ρ k, 0, none⟩) es.length cap0 := hxv
        rw [hxv'] at hx ⊢
        obtain ⟨cs, hflat, hlen, hfc, hsrc⟩ := src_of (P := E.P) (hy.rd (by intros; simp)) hs'
        rcases (hx.rd (by intros; simp)).flat with ⟨hf, _⟩ | ⟨_, _, hf, _⟩ | ⟨blk, off, cap1, olds, _, hv1, hfo, hco⟩
        · cases hf
        · cases hf
        · cases hv1
          have hco' : ∀ (j : Nat) (x : Value), olds[j]? = some x → cur[j]? = some x := fun j x hj => by have := hco j x hj; rwa [Nat.zero_add, Box.cell hh] at this
          have hle : olds.length ≤ cur.size := by rw [hfo.len, hcs]; exact Nat.mul_le_mul_right _ hcap
          have htake : cur.toList.take (es.length * i.size) = olds := by
            apply List.ext_getElem?
            intro j
            rw [List.getElem?_take, ← hfo.len]
            split
            · rename_i hj
              have := hco' j _ (List.getElem?_eq_getElem hj)
              rw [List.getElem?_eq_getElem hj]
              simpa using this
            · rename_i hj
              rw [List.getElem?_eq_none (by omega)]
          by_cases hroom : es.length + es'.length ≤ cap0
          · have hfit : es.length * i.size + cs.length ≤ cur.size := by
              rw [hflat.len, hcs, ← Nat.add_mul]
              exact Nat.mul_le_mul_right _ hroom
            have hrun := run_room (P := E.P) w t ty el i hu hi (ρ k) es.length cap0 cur tyc hh _ es'.length cs hlen hfc (hflat.one hone) hroom hfit
            rw [htake] at hrun
            have hhp := setRow_heap w (ρ k) cur (olds ++ cs ++ cur.toList.drop (es.length * i.size + cs.length)).toArray tyc (0, 0) hh
            have hpre : ∀ (j : Nat) (x : Value), (olds ++ cs)[j]? = some x → (olds ++ cs ++ cur.toList.drop (es.length * i.size + cs.length)).toArray[j]? = some x := fun j x hj => by
              rw [List.getElem?_toArray, List.getElem?_append_left (lt_of_some hj)]; exact hj
            have hext : Ext m w (upd m (ρ k) (some ((es.length + es'.length) * i.size))) (w.setRow (ρ k) (olds ++ cs ++ cur.toList.drop (es.length * i.size + cs.length)).toArray) := by
              refine ⟨by simp, fun blk off v hb hm hc => ?_, fun blk hb fr hf => ?_⟩
              · by_cases hne : blk = ρ k
                · subst hne
                  have hlt := hm _ hlim
                  rw [Box.cell hh] at hc
                  rw [Box.cell hhp]
                  refine hpre _ _ ?_
                  rw [List.getElem?_append_left (by rw [hfo.len]; exact hlt), ← htake, List.getElem?_take, if_pos hlt]
                  simpa using hc
                · rw [cell_setRow_other w _ _ _ hne]; exact hc
              · rw [upd_at] at hf
                split at hf
                · rename_i e
                  subst e
                  cases hf
                  exact ⟨_, hlim, Nat.mul_le_mul_right _ (by omega)⟩
                · exact ⟨fr, hf, Nat.le_refl _⟩
            have hsize : (olds ++ cs ++ cur.toList.drop (es.length * i.size + cs.length)).toArray.size = cap0 * i.size := by
              have h1 := hfo.len
              have h2 : (olds ++ cs ++ cur.toList.drop (es.length * i.size + cs.length)).length = olds.length + cs.length + (cur.size - (es.length * i.size + cs.length)) := by simp only [List.length_append, List.length_drop, Array.length_toList]
              show (olds ++ cs ++ cur.toList.drop (es.length * i.size + cs.length)).length = _
              omega
            have hll : (es ++ es').length = es.length + es'.length := List.length_append
            refine ⟨_, _, upd m (ρ k) (some ((es.length + es'.length) * i.size)), β, hrun, ?_⟩
            rw [← hll]
            refine h.grown hrw hdn (g' := ρ k) (by rw [hll]; exact hext) (h.below.setRow (.inl hlo) _) (fun g hg hne => ⟨setRow_other w _ _ _ hne, upd_ne _ _ hne⟩)
              ⟨hlo, by rw [upd_same], cap0, _, tyc, rfl, hhp, by rw [hll]; exact hroom, hsize⟩
              (Rd.of_flat ((hfo.append hflat).mono (by rw [hll]; exact hext)) hhp hpre (by rw [hll]; exact hroom) (fun fr hf => by rw [upd_same] at hf; cases hf; exact Nat.le_refl _) _)
              (fun v0 sz0 es0 s hi' e => ?_) (fun s cs hs => hrw.box _ _ _ _ _ _ hbx hs)
            obtain ⟨h1, h2⟩ := Bear.stripped (st := ⟨strip d st.t, stripB E d st.b⟩) hi'
            exact h2 (hrw.sep _ _ _ _ _ _ _ _ (Bear.stripped h1).1 hbx e)
          · have he : es' ≠ [] := by intro h0; rw [h0] at hroom; exact hroom hcap
            obtain ⟨blk, off, cap, hyv, hcell⟩ := hsrc he
            rw [hyv]
            have hrun := run_append_grow (P := E.P) w t ty el i zv hu hi hzv ⟨ρ k, 0, none⟩ es.length cap0 olds hfo.len (fun j x hj => by rw [Addr_add_eq]; exact hco j x hj) _ es'.length cap cs hflat.len hcell (by omega) (by omega) (growslice_fits (by omega) hby1)
            have hge := grownCap_ge w (es.length + es'.length) cap0 el
            have hll : (es ++ es').length = es.length + es'.length := List.length_append
            have hext := Ext.fresh m w (.cells (olds.toArray ++ cs.toArray ++ Builtin.zeroCells zv.cells (grownCap w (es.length + es'.length) cap0 el - (es.length + es'.length))) el) (some ((es ++ es').length * i.size))
            have hhp : (w.drew.alloc (.cells (olds.toArray ++ cs.toArray ++ Builtin.zeroCells zv.cells (grownCap w (es.length + es'.length) cap0 el - (es.length + es'.length))) el)).heap[w.heap.size]? = some (.cells (olds.toArray ++ cs.toArray ++ Builtin.zeroCells zv.cells (grownCap w (es.length + es'.length) cap0 el - (es.length + es'.length))) el) := World.heap_new w.drew _
            refine ⟨_, _, upd m w.heap.size (some ((es ++ es').length * i.size)), β, hrun, ?_⟩
            rw [← hll] at hge ⊢
            refine h.grown hrw hdn (g' := w.heap.size) (by rw [hll]; rw [hll] at hext; exact hext) (h.below.drew.alloc h.below.size _) (fun g hg hne => ⟨by rw [Below.heap_alloc w.drew _ g hg]; rfl, upd_ne _ _ hne⟩)
              ⟨h.below.size, upd_same _ _ _, _, _, _, rfl, by rw [hll]; exact hhp, hge, by
                rw [Array.size_append, Array.size_append, size_zeroCells]
                simp only [List.size_toArray, hfo.len, hflat.len, hzs, hzl]
                rw [← Nat.add_mul, ← Nat.add_mul, ← hll]; congr 1; omega⟩
              (Rd.of_flat ((hfo.append hflat).mono (by rw [hll]; rw [hll] at hext; exact hext)) (by rw [hll]; exact hhp) (fun j x hj => by
                rw [Array.getElem?_append_left (by have := lt_of_some hj; simpa using this)]
                simpa using hj) hge (fun fr hf => by rw [upd_same] at hf; cases hf; exact Nat.le_refl _) _)
              (fun v0 sz0 es0 s hi' => Nat.ne_of_lt (hρlt (Bear.stripped (Bear.stripped (st := ⟨strip d st.t, stripB E d st.b⟩) hi').1).1)) (fun s cs hs => Nat.ne_of_lt (hβlt hs))
      · cases hg
    · rename_i s sz len nl' sz' es' tok' hA hB
      split at hg
      · rename_i cs hcs
        split at hg
        · rename_i hc
          obtain ⟨hn0, hzl, rfl, hs', hone, hby1, hmax, hmb⟩ := hc
          cases hg
          obtain ⟨ix, rfl, hix⟩ := ev_row h hA
          obtain ⟨hfit, cap0, cur, tyc, hxv, hh, hcs0⟩ := h.own ix s i.size len cs hix hcs
          obtain ⟨⟨hlim, vals, ty0, xs, rest, hh', hvs, hr⟩, hlo⟩ := h.boxes s cs hcs
          rw [hh] at hh'
          cases hh'
          have hxv' : a.eval (.tmp ix) = .slice (some ⟨β s, 0, none⟩) len cap0 := hxv
          have hcap : len ≤ cap0 := by
            obtain ⟨cap', hv', hc'⟩ := (hix ▸ h.tmps ix : Rs m w β (a.tmps.getD ix Go.undef) (.row s i.size len)).row
            have hxv : a.tmps.getD ix Go.undef = .slice (some ⟨β s, 0, none⟩) len cap0 := hxv
            rw [hv'] at hxv
            cases hxv
            exact hc'
          rw [hxv']
          rw [hB] at hy
          obtain ⟨news, hflat, hlen, hfc, hsrc⟩ := src_of (P := E.P) (hy.rd (by intros; simp)) hs'
          have hxl := hr.length
          have hcl : cur.size = xs.length + rest.length := by rw [← Array.length_toList, hvs, List.length_append]
          have hnl : news.length = es'.length * i.size := hflat.len
          have htk : cur.toList.take (len * i.size) = xs.take (len * i.size) := by rw [hvs, List.take_append_of_le_length (by omega)]
          have hnew : RdL m w (xs.take (len * i.size) ++ news) (cs.take (len * i.size) ++ es'.flatMap V.cells) := (hr.take _).append (rdl_of_flat _ _ hflat)
          have hnl2 := hnew.length
          have hol : (xs.take (len * i.size)).length = len * i.size := by rw [List.length_take]; omega
          have hmul : (len + es'.length) * i.size = len * i.size + es'.length * i.size := Nat.add_mul _ _ _
          by_cases hroom : len + es'.length ≤ cap0
          · have hmc : (len + es'.length) * i.size ≤ cap0 * i.size := Nat.mul_le_mul_right _ hroom
            have hrun := run_room (P := E.P) w t ty el i hu hi (β s) len cap0 cur tyc hh _ es'.length news hlen hfc (hflat.one hone) hroom (by omega)
            rw [htk] at hrun
            have hext : Ext m w m (w.setRow (β s) (xs.take (len * i.size) ++ news ++ cur.toList.drop (len * i.size + news.length)).toArray) := by
              refine ⟨by simp, fun blk off v hb hm hc => ?_, fun blk hb fr hf => ⟨fr, hf, Nat.le_refl _⟩⟩
              have hne : blk ≠ β s := by
                rintro rfl
                have := hm 0 hlim
                omega
              rw [cell_setRow_other w _ _ _ hne]
              exact hc
            refine ⟨_, _, m, upd β d (β s), hrun, ?_⟩
            exact h.regrow hrw hdn hmb hcs (g' := β s) (xs' := xs.take (len * i.size) ++ news) (rest' := cur.toList.drop (len * i.size + news.length)) hext (h.below.setRow hlo _) (fun g hg hne => ⟨setRow_other w _ _ _ hne, rfl⟩) (hlo.imp id fun hx => ⟨hx, hlim⟩) hlim
              (setRow_heap w _ _ _ _ _ hh) (by simp) (hnew.mono hext) (by rw [← hnl2, List.length_append, hol, hnl, hmul]; exact Nat.le_refl _) hroom
              (by simp only [List.size_toArray, List.length_append, hol, List.length_drop, Array.length_toList]; omega)
              (fun i' sz0 es0 s' hi' e => hrw.box _ _ _ _ _ _ hi' hcs e.symm) (fun s' c' hs' hne e => hne (h.inj _ _ _ _ hs' hcs e))
          · have he : es' ≠ [] := by intro h0; rw [h0] at hroom; exact hroom hcap
            obtain ⟨blk, off, cap, hyv, hcell⟩ := hsrc he
            rw [hyv]
            have hrun := run_append_grow (P := E.P) w t ty el i zv hu hi hzv ⟨β s, 0, none⟩ len cap0 (xs.take (len * i.size)) hol (fun j x hj => by
              rw [Addr_add_eq, Nat.zero_add, Box.cell hh, ← Array.getElem?_toList, hvs]
              have hj' := lt_of_some hj
              rw [hol] at hj'
              rw [List.getElem?_take, if_pos hj'] at hj
              rw [List.getElem?_append_left (by omega)]
              exact hj) _ es'.length cap news hflat.len hcell (by omega) (by omega) (growslice_fits (by omega) hby1)
            have hge := grownCap_ge w (len + es'.length) cap0 el
            have hext := Ext.fresh m w (.cells ((xs.take (len * i.size)).toArray ++ news.toArray ++ Builtin.zeroCells zv.cells (grownCap w (len + es'.length) cap0 el - (len + es'.length))) el) (some 0)
            have hhp : (w.drew.alloc (.cells ((xs.take (len * i.size)).toArray ++ news.toArray ++ Builtin.zeroCells zv.cells (grownCap w (len + es'.length) cap0 el - (len + es'.length))) el)).heap[w.heap.size]? = some (.cells ((xs.take (len * i.size)).toArray ++ news.toArray ++ Builtin.zeroCells zv.cells (grownCap w (len + es'.length) cap0 el - (len + es'.length))) el) := World.heap_new w.drew _
            refine ⟨_, _, upd m w.heap.size (some 0), upd β d w.heap.size, hrun, ?_⟩
            exact h.regrow hrw hdn hmb hcs (g' := w.heap.size) (xs' := xs.take (len * i.size) ++ news) (rest' := (Builtin.zeroCells zv.cells (grownCap w (len + es'.length) cap0 el - (len + es'.length))).toList) hext (h.below.drew.alloc h.below.size _)
              (fun g hg hne => ⟨by rw [Below.heap_alloc w.drew _ g hg]; rfl, upd_ne _ _ hne⟩) (.inl h.below.size) (upd_same _ _ _) hhp (by simp) (hnew.mono hext) (by rw [← hnl2, List.length_append, hol, hnl, hmul]; exact Nat.le_refl _) hge
              (by
                rw [Array.size_append, Array.size_append, size_zeroCells]
                simp only [List.size_toArray, hol, hnl, hzs, hzl]
                rw [← Nat.add_mul, ← Nat.add_mul]; congr 1; omega)
              (fun i' sz0 es0 s' hi' => Nat.ne_of_lt (hρlt hi')) (fun s' c' hs' _ => Nat.ne_of_lt (hβlt hs'))
        · cases hg
      · cases hg
    · cases hg
  · cases hg

theorem makeV_sound (h : Rel E n pm m0 w0 m β st a w) {dst : Option Tmp} (hd : ∀ k, dst = some k → k < n) {x y : Value} {A B : V} (hx : Rs m w β x A) (hy : Rs m w β y B) {t el : TypeId} {st' : St} (hu : E.P.underlying t = some (.slice el))
    (hg : makeV E st dst el A B = some st') : ∃ v w' m', (Instr.makeSlice t x y).run E.P w = .ok v w' ∧ Rel E n pm m0 w0 m' β st' (a.put dst v) w' := by
  obtain ⟨ρ, hrw⟩ := h.rows
  have hρlt : ∀ {v : Value} {sz0 : Nat} {es0 : List V} {s : Nat}, Bear E w β st (fun i => a.tmps.getD i Go.undef) v (.sl false sz0 es0 (some s)) → ρ s < w.heap.size := fun hi => by
    obtain ⟨_, _, _, _, _, _, hh, _⟩ := hrw.row _ _ _ _ hi
    exact heap_lt hh
  have hβlt : ∀ {s : Nat} {cs : List V}, st.b s = some cs → β s < w.heap.size := fun hs => by
    obtain ⟨⟨_, _, _, _, _, hh, _⟩, _⟩ := h.boxes _ _ hs
    exact heap_lt hh
  unfold makeV at hg
  split at hg
  · rename_i d sz by' z hsz hby hz
    obtain ⟨i, hi, rfl⟩ := info_of hsz
    have hbi : i.bytes = by' := by simpa [byB, hi] using hby
    obtain ⟨zv, hzv, hzs⟩ := zero_of hi hz
    subst hbi
    have hdn : d < n := hd d rfl
    split at hg
    · rename_i kl l kc c
      split at hg
      · rename_i hc
        obtain ⟨hzl, rfl, hc0, hcb, hcm⟩ := hc
        cases hg
        obtain rfl := hx.x
        obtain rfl := hy.x
        have hrun := run_make (P := E.P) w t el i zv hu hi hzv kl kc 0 c (by omega) hc0 hcb hcm
        have hext := Ext.fresh0 m w (.cells (madeCells zv.cells (c.toNat * i.size)) el) (some 0)
        have hhp := World.heap_new w (.cells (madeCells zv.cells (c.toNat * i.size)) el)
        refine ⟨_, _, upd m w.heap.size (some 0), hrun, ?_⟩
        have hg := h.grown hrw (d := d) (k := d) (g' := w.heap.size) (sz := i.size) (es' := []) (v' := .slice (some ⟨w.heap.size, 0, none⟩) 0 c.toNat) hdn hext
          (h.below.alloc h.below.size _) (fun g hg hne => ⟨by rw [Below.heap_alloc w _ g hg], upd_ne _ _ hne⟩)
          ⟨h.below.size, by rw [upd_same]; simp, _, _, _, rfl, hhp, Nat.zero_le _, by rw [size_madeCells]⟩
          (Rd.of_flat (Flat.nil _) hhp (fun j x hj => by simp at hj) (Nat.zero_le _) (fun fr hf => by simp) _)
          (fun v0 sz0 es0 s hi' => Nat.ne_of_lt (hρlt (Bear.stripped (Bear.stripped (st := ⟨strip d st.t, stripB E d st.b⟩) hi').1).1)) (fun s cs hs => Nat.ne_of_lt (hβlt hs))
        rw [strip_strip, stripB_strip] at hg
        exact hg
      · cases hg
    · cases hg
  · cases hg

theorem fillV_row {n : Nat} : ∀ (parts : List (Nat × V)) (k len : Nat) (cells : List V), parts.map (·.1) = List.range' k parts.length → k + parts.length = len → cells.length = len * n → (∀ p ∈ parts, p.2.dat = true ∧ p.2.cells.length = n) →
    fillV (fun i => some (i * n, n)) cells parts = some (cells.take (k * n) ++ parts.flatMap (fun p => p.2.cells))
  | [], k, len, cells, _, hk, hc, _ => by
    simp only [List.length_nil, Nat.add_zero] at hk
    subst hk
    simp only [fillV, List.flatMap_nil, List.append_nil]
    rw [← hc, List.take_length]
  | (i, u) :: parts, k, len, cells, hr, hk, hc, hp => by
    simp only [List.map_cons, List.length_cons, List.range'_succ, List.cons.injEq] at hr hk
    obtain ⟨rfl, hr⟩ := hr
    obtain ⟨hd, hl⟩ := hp (i, u) (by simp)
    simp only at hd hl
    have hle : (i + 1) * n ≤ len * n := Nat.mul_le_mul_right _ (by omega)
    rw [Nat.add_mul, Nat.one_mul] at hle
    unfold fillV
    simp only
    rw [if_neg (by simp [hd, hl]; omega)]
    have hcl : (cells.take (i * n) ++ u.cells ++ cells.drop (i * n + n)).length = len * n := by
      simp only [List.length_append, List.length_take, List.length_drop, hl, hc]
      omega
    rw [fillV_row parts (i + 1) len _ hr (by omega) hcl (fun p hpm => hp p (by simp [hpm]))]
    congr 1
    have hlen1 : (cells.take (i * n) ++ u.cells).length = (i + 1) * n := by
      rw [Nat.add_mul, Nat.one_mul]
      simp only [List.length_append, List.length_take, hl, hc]
      omega
    rw [List.take_append_of_le_length (by omega), ← hlen1, List.take_length]
    simp

theorem flat_of_rdl {n : Nat} : ∀ (es : List V) (cs : List Value), (∀ e ∈ es, e.cells.length = n) → RdL m w cs (es.flatMap V.cells) → Flat m w cs n es
  | [], cs, _, h => by
    cases cs with
    | nil => exact Flat.nil n
    | cons c cs => exact h.elim
  | e :: es, cs, he, h => by
    have hn := he e (by simp)
    have hlen := h.length
    simp only [List.flatMap_cons, List.length_append, hn] at hlen
    have h1 := h.take n
    have h2 := h.drop n
    rw [List.flatMap_cons, ← hn, List.take_left, hn] at h1
    rw [List.flatMap_cons, ← hn, List.drop_left, hn] at h2
    have ih := flat_of_rdl es _ (fun e' h' => he e' (by simp [h'])) h2
    have h0 : Flat m w (cs.take n) n [e] := by
      refine ⟨by simp; omega, fun i u hu => ?_⟩
      cases i with
      | zero =>
        simp at hu
        subst hu
        refine ⟨hn, fun j d hd => ?_⟩
        have hj := lt_of_some hd
        have hlt : j < (cs.take n).length := by simp; omega
        exact ⟨(cs.take n)[j], by rw [Nat.zero_mul, Nat.zero_add]; exact List.getElem?_eq_getElem hlt, h1.get j _ d (List.getElem?_eq_getElem hlt) hd⟩
      | succ i => simp at hu
    have := h0.append ih
    rwa [List.take_append_drop] at this

theorem undefs (cs : List Value) : RdL m w cs (List.replicate cs.length .undef) := by
  induction cs with
  | nil => trivial
  | cons c cs ih => exact ⟨.undef c, ih⟩

theorem row_run {P : Program} {t el : TypeId} {len n : Nat} {z : List V} {parts : List (Nat × V)} {vs : List (Nat × Value)} (hm : vs.map (·.1) = parts.map (·.1))
    (hv : ∀ (i : Nat) (x : Nat × Value) (u : Nat × V), vs[i]? = some x → parts[i]? = some u → Rs m w β x.2 u.2) (ht : P.underlying t = some (.slice el)) (hsz : szB P el = some n) (hz : zeroB P el = some z)
    (hr : parts.map (·.1) = List.range len) (hmax : len * n ≤ 16777216) (hp : (parts.all fun p => p.2.dat && decide (p.2.cells.length = n)) = true) :
    ∃ cs' : Array Value, (Instr.buildSlice t len vs.toArray).run P w = .ok (.slice (some ⟨w.heap.size, 0, none⟩) len len) (w.alloc (.cells cs' el)) ∧ RdL m w cs'.toList (parts.flatMap fun p => p.2.cells) ∧ (parts.flatMap fun p => p.2.cells).length = len * n := by
  have hp' : ∀ p ∈ parts, p.2.dat = true ∧ p.2.cells.length = n := fun p hpm => by
    have := List.all_eq_true.1 hp p hpm
    simpa using this
  have hlen : parts.length = len := by simpa using congrArg List.length hr
  obtain ⟨zv, hzr, hzd⟩ := zeroB_sound (w := w) (m := m) hz
  let init : Array Value := (Array.range (len * n)).map (fun j => (if len * n = 0 then (#[] : Array Value) else zv.cells)[j % (if len * n = 0 then (#[] : Array Value) else zv.cells).size]!)
  have hinit : init.toList.length = len * n := by simp [init]
  have hf := fillV_row (n := n) parts 0 len (List.replicate (len * n) .undef) (by rw [hr, List.range_eq_range', hlen]) (by omega) (by simp) hp'
  simp only [Nat.zero_mul, List.take_zero, List.nil_append] at hf
  obtain ⟨cs', hcs', hd⟩ := fillV_sound (m := m) (w := w) (β := β) (cs := init) (by have := undefs (m := m) (w := w) init.toList; rwa [hinit] at this) hm hv hf
  have hrun : (Instr.buildSlice t len vs.toArray).run P w = .ok (.slice (some ⟨w.heap.size, 0, none⟩) len len) (w.alloc (.cells cs' el)) := by
    simp only [Instr.buildSlice, Sem.run_bind, run_und ht, Result.andThen_ok, run_szB hsz]
    rw [if_neg (by omega)]
    by_cases h0 : len * n = 0
    · have hi0 : init = #[] := by apply Array.eq_empty_of_size_eq_zero; rw [← Array.length_toList, hinit, h0]
      rw [hi0] at hcs'
      have e0 : ∀ f : Nat → Value, (Array.range 0).map f = #[] := fun f => by apply Array.toList_inj.1; rw [Array.toList_map, Array.toList_range]; rfl
      simp only [h0, if_true, Sem.run_bind, Sem.run_pure, Result.andThen_ok, e0, hcs', newRow, run_newObj]
      rfl
    · have : (Array.range (len * n)).map (fun j => zv.cells[j % zv.cells.size]!) = init := by simp [init, h0]
      simp only [h0, if_false, Sem.run_bind, hzr, Sem.run_pure, Result.andThen_ok, this, hcs', newRow, run_newObj]
      rfl
  refine ⟨cs', hrun, hd, ?_⟩
  have key : ∀ l : List (Nat × V), (∀ p ∈ l, p.2.dat = true ∧ p.2.cells.length = n) → (l.flatMap fun p => p.2.cells).length = l.length * n := by
    intro l
    induction l with
    | nil => intro _; simp
    | cons p l ih =>
      intro h
      rw [List.flatMap_cons, List.length_append, ih (fun q hq => h q (by simp [hq])), (h p (by simp)).2, List.length_cons, Nat.add_mul, Nat.one_mul]
      omega
  rw [key parts hp', hlen]

theorem newR_sound (h : Rel E n pm m0 w0 m β st a w) {dst : Option Tmp} (hd : ∀ k, dst = some k → k < n) {t : TypeId} {len : Nat} {parts : List (Nat × V)} {vs : List (Nat × Value)} (hm : vs.map (·.1) = parts.map (·.1))
    (hv : ∀ (i : Nat) (x : Nat × Value) (u : Nat × V), vs[i]? = some x → parts[i]? = some u → Rs m w β x.2 u.2) {st' : St} (hmb : E.okN dst (parts.flatMap fun p => p.2.cells) = true) (hx : newR E.P st dst t len parts = some st') :
    ∃ v w' m' β', (Instr.buildSlice t len vs.toArray).run E.P w = .ok v w' ∧ Rel E n pm m0 w0 m' β' st' (a.put dst v) w' := by
  unfold newR at hx
  split at hx
  · rename_i s el ht
    split at hx
    · rename_i k z hsz hz
      split at hx
      · rename_i hc
        obtain ⟨hn, hr, hmax, hp⟩ := hc
        cases hx
        obtain ⟨cs', hrun, hrd, hlen⟩ := row_run (β := β) hm hv ht hsz hz hr hmax hp
        exact ⟨_, _, _, _, hrun, h.newG (hd s rfl) hn hrd hmb (.inr ⟨k, len, rfl, rfl, hlen⟩)⟩
      · cases hx
    · cases hx
  · cases hx

/-- What names a row of the call's own that may be written: a piece of one. -/
theorem pureV_isrow {op : Op} {e : Operand → V} (hm : isMv op = false) {s sz len : Nat} (h : pureV E op e = some (.row s sz len)) :
    ∃ t x lo hi el len', ∃ k : Int, op = .slice t x lo hi none ∧ E.P.underlying t = some (.slice el) ∧ e x = .row s sz len' ∧ boundV e 0 lo = some 0 ∧ boundV e len' hi = some k ∧ szB E.P el = some sz ∧ 0 ≤ k ∧ k ≤ len' ∧ len = k.toNat := by
  cases op with
  | move x => simp [isMv] at hm
  | assign x => simp [isMv] at hm
  | pick c x y => simp [isMv] at hm
  | extract x i =>
    simp only [pureV] at h
    split at h
    · have := (np_some h).2; simp [V.notPtr] at this
    · simp at h
  | field t x f =>
    simp only [pureV] at h
    split at h
    · obtain ⟨fd, _, h⟩ := Option.bind_eq_some_iff.1 h
      have := (np_some h).2; simp [V.notPtr] at this
    · simp at h
  | binOp op t x y yt =>
    simp only [pureV, binV] at h
    exfalso
    split at h
    · split at h
      · split at h <;> simp at h
      · split at h <;> simp at h
      · split at h
        · simp only [intV] at h
          split at h <;> (try split at h) <;> simp at h
        · simp at h
    · simp only [strV, catV] at h
      split at h <;> (try split at h) <;> simp at h
    · split at h <;> simp at h
    · split at h
      · simp at h
      · split at h <;> simp at h
    · split at h <;> (try split at h) <;> simp at h
    · split at h <;> simp at h
    · split at h <;> (try split at h) <;> simp at h
    · simp at h
  | unOp op t x => cases op <;> simp only [pureV] at h <;> (try split at h) <;> simp at h
  | slice t x lo hi mx =>
    cases mx with
    | some y => simp [pureV] at h
    | none =>
      simp only [pureV] at h
      split at h
      · exfalso
        repeat' split at h
        all_goals simp at h
      · exfalso
        repeat' split at h
        all_goals simp at h
      · rename_i el s' sz' len' ht hx
        split at h
        · rename_i l k hl hk
          split at h
          · rename_i hc
            cases h
            obtain ⟨h1, rfl, h2, h3⟩ := hc
            exact ⟨t, x, lo, hi, el, len', k, rfl, ht, hx, hl, hk, h1, h2, h3, rfl⟩
          · cases h
        · cases h
      · cases h
  | call c =>
    obtain ⟨callee, args, ts⟩ := c
    exfalso
    cases callee with
    | value f => simp [pureV] at h
    | invoke r s => simp [pureV] at h
    | builtin b =>
      cases b <;> simp only [pureV] at h <;> (try (simp at h; done))
      all_goals (repeat' split at h)
      all_goals (first | (simp at h; done) | cases h)
  | _ =>
    exfalso
    simp only [pureV, buildV] at h
    repeat' split at h
    all_goals simp at h
theorem pureV_own (h : Rel E n pm m0 w0 m β st a w) {o : Oper} (hm : isMv o.op = false) {s sz len : Nat} (hu : pureV E o.op (ev E st) = some (.row s sz len)) :
    ∃ v, (execOp a.eval o).run E.P w = .ok (.value v) w ∧ Rs m w β v (.row s sz len) ∧ ∀ cs, st.b s = some cs → OwnAt w β v s sz len cs := by
  obtain ⟨t, x, lo, hi, el, len', k, ho, ht, hx, hl, hk, hsz, h0, hke, rfl⟩ := pureV_isrow hm hu
  obtain ⟨k, rfl⟩ := Int.eq_ofNat_of_zero_le h0
  obtain ⟨ix, rfl, hix⟩ := ev_row h hx
  obtain ⟨cap, hv, hcap⟩ := (hx ▸ ev_sound h (.tmp ix) : Rs m w β (a.eval (.tmp ix)) (.row s sz len')).row
  have hb := bounds_sound (m := m) (w := w) (β := β) (P := E.P) (isS := true) (len := len') (cap := cap) (l := 0) (fun x => ev_sound h x) hl hk (by omega) (by omega)
  refine ⟨.slice (some ⟨β s, 0, none⟩) k cap, ?_, .ofRow _ _ (by omega), fun cs hcs => ?_⟩
  · simp only [execOp, ho, Instr.sliceAt, Sem.run_bind, run_und ht, Result.andThen_ok, Instr.slice, hv, Option.map_none, hb, run_szB hsz, Sem.run_pure]
    congr 2
    cases cap <;> simp [Addr_add_eq]
  · obtain ⟨hf, cap', cur, ty, hv', hh, hs⟩ := h.own ix s sz len' cs hix hcs
    have hv' : a.eval (.tmp ix) = .slice (some ⟨β s, 0, none⟩) len' cap' := hv'
    rw [hv] at hv'
    cases hv'
    exact ⟨Nat.le_trans (Nat.mul_le_mul_right _ (by omega)) hf, cap, cur, ty, rfl, hh, hs⟩

theorem rowV_sound {P : Program} {t : TypeId} {len : Nat} {parts : List (Nat × V)} {vs : List (Nat × Value)} (hm : vs.map (·.1) = parts.map (·.1))
    (hv : ∀ (i : Nat) (x : Nat × Value) (u : Nat × V), vs[i]? = some x → parts[i]? = some u → Rs m w β x.2 u.2) {u : V} (hu : rowV P t len parts = some u) :
    ∃ v w' m', (Instr.buildSlice t len vs.toArray).run P w = .ok v w' ∧ Rd m' w' v u ∧ Below w.heap.size w w' ∧ ∀ blk, blk < w.heap.size → m' blk = m blk := by
  unfold rowV at hu
  split at hu
  · rename_i el ht
    split at hu
    · rename_i n z hsz hz
      split at hu
      · rename_i hc
        obtain ⟨hr, hmax, hp⟩ := hc
        cases hu
        have hp' : ∀ p ∈ parts, p.2.dat = true ∧ p.2.cells.length = n := fun p hpm => by
          have := List.all_eq_true.1 hp p hpm
          simpa using this
        have hlen : parts.length = len := by simpa using congrArg List.length hr
        obtain ⟨zv, hzr, hzd⟩ := zeroB_sound (w := w) (m := m) hz
        let init : Array Value := (Array.range (len * n)).map (fun j => (if len * n = 0 then (#[] : Array Value) else zv.cells)[j % (if len * n = 0 then (#[] : Array Value) else zv.cells).size]!)
        have hinit : init.toList.length = len * n := by simp [init]
        have hf := fillV_row (n := n) parts 0 len (List.replicate (len * n) .undef) (by rw [hr, List.range_eq_range', hlen]) (by omega) (by simp) hp'
        simp only [Nat.zero_mul, List.take_zero, List.nil_append] at hf
        obtain ⟨cs', hcs', hd⟩ := fillV_sound (m := m) (w := w) (β := β) (cs := init) (by have := undefs (m := m) (w := w) init.toList; rwa [hinit] at this) hm hv hf
        have hfl : Flat m w cs'.toList n (parts.map (·.2)) := flat_of_rdl _ _ (fun e he => by
          obtain ⟨p, hpm, rfl⟩ := List.mem_map.1 he
          exact (hp' p hpm).2) (by rw [List.flatMap_map]; exact hd)
        have hrun : (Instr.buildSlice t len vs.toArray).run P w = .ok (.slice (some ⟨w.heap.size, 0, none⟩) len len) (w.alloc (.cells cs' el)) := by
          simp only [Instr.buildSlice, Sem.run_bind, run_und ht, Result.andThen_ok, run_szB hsz]
          rw [if_neg (by omega)]
          by_cases h0 : len * n = 0
          · have hi0 : init = #[] := by apply Array.eq_empty_of_size_eq_zero; rw [← Array.length_toList, hinit, h0]
            rw [hi0] at hcs'
            have e0 : ∀ f : Nat → Value, (Array.range 0).map f = #[] := fun f => by apply Array.toList_inj.1; rw [Array.toList_map, Array.toList_range]; rfl
            simp only [h0, if_true, Sem.run_bind, Sem.run_pure, Result.andThen_ok, e0, hcs', newRow, run_newObj]
            rfl
          · have : (Array.range (len * n)).map (fun j => zv.cells[j % zv.cells.size]!) = init := by simp [init, h0]
            simp only [h0, if_false, Sem.run_bind, hzr, Sem.run_pure, Result.andThen_ok, this, hcs', newRow, run_newObj]
            rfl
        refine ⟨_, _, upd m w.heap.size none, hrun, ?_, (Below.refl _ _).alloc (Nat.le_refl _) _, fun blk hb => upd_ne _ _ (Nat.ne_of_lt hb)⟩
        have := Rd.of_flat (hfl.mono (Ext.fresh0 m w (.cells cs' el) none)) (World.heap_new w _) (fun j x hj => by simpa using hj) (cap := len) (by simp [hlen]) (fun fr hf => by rw [upd_same] at hf; cases hf) none
        rwa [List.length_map, hlen] at this
      · cases hu
    · cases hu
  · cases hu

theorem Rd.not_bx {v : Value} {cs : List V} (h : Rd m w v (.bx cs)) : False := by cases h
theorem slotsP_no {u : V} {l : List V} (hn : ∀ s, u ≠ .ptr s 0) : slotsP (u :: l) = slotsP l := by
  cases u with
  | ptr s off => cases off with
    | zero => exact absurd rfl (hn s)
    | succ off => rfl
  | _ => rfl
theorem args_P (h : Rel E n pm m0 w0 m β st a w) (hK : E.K ≤ w0.heap.size) : ∀ (l : List Operand), ((l.map (ev E st)).map (argP st.b)).all V.datP = true →
    ArgsP m w E.K (l.map a.eval) ((l.map (ev E st)).map (argP st.b)) ((slotsP (l.map (ev E st))).map β) ∧ ∀ s ∈ slotsP (l.map (ev E st)), ∃ cs, st.b s = some cs
  | [], _ => ⟨.nil, by simp [slotsP]⟩
  | x :: l, hd => by
    simp only [List.map_cons, List.all_cons, Bool.and_eq_true] at hd
    obtain ⟨ih, ihd⟩ := args_P h hK l hd.2
    have hx := ev_sound h x
    have h1 := hd.1
    simp only [List.map_cons]
    generalize ev E st x = u at hx h1 ⊢
    have plain : (∀ s, u ≠ .ptr s 0) → ArgsP m w E.K (a.eval x :: l.map a.eval) (argP st.b u :: (l.map (ev E st)).map (argP st.b)) ((slotsP (u :: l.map (ev E st))).map β) ∧ ∀ s ∈ slotsP (u :: l.map (ev E st)), ∃ cs, st.b s = some cs := fun hn => by
      have e1 : argP st.b u = u.bare := by
        unfold argP
        split
        · exact absurd rfl (hn _)
        · rfl
      have e2 : slotsP (u :: l.map (ev E st)) = slotsP (l.map (ev E st)) := slotsP_no hn
      rw [e1] at h1 ⊢
      rw [e2]
      have hb := hx.bare
      have hdd : u.bare.dat = true := by
        unfold V.datP at h1
        split at h1
        · rename_i cs e
          rw [e] at hb
          rcases hb with hb | ⟨_, _, hb, _⟩ | ⟨_, _, _, _, hb, _⟩
          · exact hb.not_bx.elim
          · cases hb
          · cases hb
        · exact h1
      exact ⟨.dat (hb.dat hdd) hdd ih, ihd⟩
    cases u with
    | ptr s off =>
      cases off with
      | succ off => exact plain (fun s e => by cases e)
      | zero =>
        simp only [argP] at h1 ⊢
        cases hs : st.b s with
        | none => rw [hs] at h1; cases h1
        | some cs =>
          obtain ⟨hbx, hge⟩ := h.boxes s cs hs
          rw [hx.ptr]
          refine ⟨.bx hbx ?_ ih, fun s' hs' => ?_⟩
          · rcases hge with hge | hge
            · exact Nat.le_trans hK hge
            · exact h.par.2.2 _ hge
          · simp only [slotsP, List.mem_cons] at hs'
            rcases hs' with rfl | hs'
            · exact ⟨cs, hs⟩
            · exact ihd s' hs'
    | _ => exact plain (fun s e => by cases e)
theorem nodup_map (h : Rel E n pm m0 w0 m β st a w) : ∀ {ss : List Nat}, ss.Nodup → (∀ s ∈ ss, ∃ cs, st.b s = some cs) → (ss.map β).Nodup
  | [], _, _ => List.nodup_nil
  | s :: ss, hn, hd => by
    rw [List.nodup_cons] at hn
    rw [List.map_cons, List.nodup_cons]
    refine ⟨fun hm => ?_, nodup_map h hn.2 (fun s' hs' => hd s' (by simp [hs']))⟩
    obtain ⟨s', h1, h2⟩ := List.mem_map.1 hm
    obtain ⟨c, hc⟩ := hd s (by simp)
    obtain ⟨c', hc'⟩ := hd s' (by simp [h1])
    exact hn.1 (h.inj _ _ _ _ hc' hc h2 ▸ h1)
theorem load_bear (h : Rel E n pm m0 w0 m β st a w) {s0 off : Nat} {cs : List V} (hcs : st.b s0 = some cs) (hM : E.MB s0 = true) {p : Value} (hp : p = .pointer (some ⟨β s0, off, none⟩)) {t : TypeId} {v : Value} {sz : Nat} {es : List V} {s : Nat}
    (hu : (match E.MB s0, aggB E.P t with
      | true, some true => partV E.P t (cs.map V.pc) off
      | _, _ => partV E.P t cs off) = some (.sl false sz es (some s))) (hr : (Instr.loadAt t p).run E.P w = .ok v w) : Bear E w β st (fun i => a.tmps.getD i Go.undef) v (.sl false sz es (some s)) := by
  rw [hM] at hu
  unfold partV at hu
  cases ha : aggB E.P t with
  | none => simp [ha] at hu
  | some b =>
    cases hs : szB E.P t with
    | none => cases b <;> simp [ha, hs] at hu
    | some k =>
      cases b with
      | true =>
        simp only [ha, hs] at hu
        split at hu <;> cases hu
      | false =>
        simp only [ha, hs] at hu
        refine .inr ⟨s0, cs, off, hM, hcs, hu, ?_⟩
        obtain ⟨⟨_, vals, ty, xs, rest, hh, hvs, hrl⟩, _⟩ := h.boxes _ _ hcs
        have hlt := lt_of_some hu
        rw [← hrl.length] at hlt
        have hcell : w.cell? ⟨β s0, off, none⟩ = some xs[off] := by
          rw [Box.cell hh, ← Array.getElem?_toList, hvs, List.getElem?_append_left hlt]
          exact List.getElem?_eq_getElem hlt
        subst hp
        simp only [Instr.loadAt, Instr.sureAddr, loadVar, Sem.run_bind, Sem.run_pure, Result.andThen_ok, run_aggB ha, Bool.false_eq_true, if_false, run_load, hcell] at hr
        cases hr
        exact hcell
theorem execV_sound (hE : EnvOK E) (h : Rel E n pm m0 w0 m β st a w) {o : Oper} {st' : St} (hx : execV E o st = some st') (hd : ∀ k, o.dst = some k → k < n)
    {K : Act → World → Prop} {Q : Exit → Act → World → Prop} (hK : ∀ a' w' m' β', Rel E n pm m0 w0 m' β' st' a' w' → K a' w') : o.wp E.P a w K Q := by
  unfold Oper.wp
  unfold execV at hx
  split at hx
  · rename_i t ho
    split at hx
    · rename_i z hz
      split at hx
      case isFalse => simp at hx
      rename_i hmb
      obtain ⟨zv, hzr, hzd⟩ := zeroB_sound (w := w) (m := m) hz
      obtain ⟨m', β', hrel⟩ := newV_sound h hd hx hmb (ty := t) hzd
      have hrun : (execOp a.eval o).run E.P w = .ok (.value (.pointer (some ⟨w.heap.size, 0, none⟩))) (w.alloc (.cells zv.cells t)) := by
        simp only [execOp, ho, Instr.alloc, Sem.run_bind, hzr, Result.andThen_ok, newVar, newRow, run_newObj, Sem.run_pure]
        rfl
      rw [hrun]
      exact hK _ _ _ _ hrel
    · simp at hx
  · rename_i t x ho
    split at hx
    · rename_i hdat
      obtain ⟨hdat, hmb⟩ := hdat
      obtain ⟨m', β', hrel⟩ := newV_sound h hd hx hmb (ty := t) (dat_cells ((ev_sound h x).bare.dat hdat) hdat)
      have hrun : (execOp a.eval o).run E.P w = .ok (.value (.pointer (some ⟨w.heap.size, 0, none⟩))) (w.alloc (.cells (a.eval x).cells t)) := by
        simp only [execOp, ho, Instr.box, Sem.run_bind, Result.andThen_ok, newVar, newRow, run_newObj, Sem.run_pure]
        rfl
      rw [hrun]
      exact hK _ _ _ _ hrel
    · simp at hx
  · rename_i t p x ho
    split at hx
    · rename_i hdst
      obtain ⟨w', hr, hrel⟩ := storeV_sound h (ev_sound h p) (ev_sound h x) (fun sz es s' he => by
        obtain ⟨i, rfl, hi⟩ := ev_tok he
        rw [he]
        exact .inl ⟨i, hi, rfl⟩) hx
      have hrun : (execOp a.eval o).run E.P w = .ok .skip w' := by simp only [execOp, ho, Sem.run_bind, hr, Result.andThen_ok, Sem.run_pure]
      rw [hrun]
      refine hK _ _ m β ?_
      rw [Option.isNone_iff_eq_none.1 hdst]
      exact hrel
    · simp at hx
  · rename_i t p ho
    split at hx
    · rename_i u hu
      cases hx
      have hu := (np_some hu).1
      obtain ⟨v, hr, hv⟩ := loadV_sound h (ev_sound h p) hu
      have hrun : (execOp a.eval o).run E.P w = .ok (.value v) w := by simp only [execOp, ho, Sem.run_bind, hr, Result.andThen_ok, Sem.run_pure]
      rw [hrun]
      refine hK _ _ m β ?_
      unfold Env.keepL
      split
      · rename_i hM
        refine h.put hd (.of hv) (fun sz es s he => ?_) (fun s sz len cs e => (e ▸ hv).not_row.elim)
        have hp := ev_sound h p
        generalize ev E st p = q at hM hu hp
        cases q with
        | ptr s0 off =>
          have hM : E.MB s0 = true := hM
          simp only [loadV] at hu
          split at hu
          · rename_i cs hcs
            rw [he] at hu ⊢
            exact load_bear h hcs hM hp.ptr hu hr
          · cases hu
        | _ => cases hM
      · exact h.put hd (.of hv.bare) (bare_tok _) (fun s sz len cs e => by have e : u.bare = _ := e; exact (e ▸ hv.bare).not_row.elim)
    · cases hx
  · rename_i args argTypes ho
    split at hx
    · rename_i x y t t' ha ht
      have hargs : args = #[x, y] := by apply Array.toList_inj.1; simpa using ha
      have hts : argTypes = #[t, t'] := by apply Array.toList_inj.1; simpa using ht
      subst hargs hts
      split at hx
      · rename_i el htt hu
        simp only [decide_eq_true_eq] at htt
        subst htt
        obtain ⟨v, w', m', β', hr, hrel⟩ := growV_sound (ty := o.type) h hd hu hx
        have hrun : (execOp a.eval o).run E.P w = .ok (.value v) w' := by
          simp only [execOp, ho, resolve, Sem.run_bind, Sem.run_pure, Result.andThen_ok, invoke, builtin]
          simp [hr]
        rw [hrun]
        exact hK _ _ _ _ hrel
      · simp at hx
    · simp at hx
  · rename_i t l c ho
    split at hx
    · rename_i el hu
      obtain ⟨v, w', m', hr, hrel⟩ := makeV_sound h hd (ev_sound h l) (ev_sound h c) hu hx
      have hrun : (execOp a.eval o).run E.P w = .ok (.value v) w' := by simp only [execOp, ho, Sem.run_bind, hr, Result.andThen_ok, Sem.run_pure]
      rw [hrun]
      exact hK _ _ _ _ hrel
    · simp at hx
  · rename_i t len parts ho
    have hvs : ∀ (i : Nat) (x : Nat × Value) (u : Nat × V), (parts.toList.map fun p => (p.1, a.eval p.2))[i]? = some x → (parts.toList.map fun p => (p.1, (ev E st p.2).bare))[i]? = some u → Rs m w β x.2 u.2 := by
      intro i x u hx hu'
      simp only [List.getElem?_map, Option.map_eq_some_iff] at hx hu'
      obtain ⟨p, hp, rfl⟩ := hx
      obtain ⟨q, hq, rfl⟩ := hu'
      rw [hp] at hq; cases hq
      exact (ev_sound h _).bare
    have hpa : (parts.map fun (i, x) => (i, a.eval x)) = (parts.toList.map fun p => (p.1, a.eval p.2)).toArray := by apply Array.toList_inj.1; simp
    split at hx
    · split at hx
      case isFalse => cases hx
      rename_i hmb
      obtain ⟨v, w', m', β', hr, hrel⟩ := newR_sound h hd (hmb := hmb) (vs := parts.toList.map fun p => (p.1, a.eval p.2)) (by simp) hvs hx
      have hrun : (execOp a.eval o).run E.P w = .ok (.value v) w' := by
        simp only [execOp, ho, Sem.run_bind]
        rw [hpa, hr]
        simp
      rw [hrun]
      exact hK _ _ _ _ hrel
    · split at hx
      · rename_i u hu
        cases hx
        simp only [valV] at hu
        obtain ⟨v, w', m', hr, hv, hb, hm⟩ := rowV_sound (m := m) (w := w) (P := E.P) (vs := parts.toList.map fun p => (p.1, a.eval p.2)) (by simp) hvs hu
        have hrun : (execOp a.eval o).run E.P w = .ok (.value v) w' := by
          simp only [execOp, ho, Sem.run_bind]
          rw [hpa, hr]
          simp
        rw [hrun]
        refine hK _ _ m' β ?_
        rw [keepV_eq]
        exact (h.call hb hm).put hd (.of hv.bare) (bare_tok _) (fun s sz len cs e => by have e : u.bare = _ := e; exact (e ▸ hv.bare).not_row.elim)
      · cases hx
  · rename_i c args ts ho
    split at hx
    case h_2 => simp at hx
    rename_i f hf
    have hc : a.eval c = .func (.func f) #[] #[] := (fnOf_is hf ▸ ev_sound h c).x
    split at hx
    · rename_i F hF
      obtain ⟨hcall, hfun⟩ := hE.fnP f F hF
      have hrun : (execOp a.eval o).run E.P w = .ok (.enter f (args.map a.eval)) w := by
        simp only [execOp, ho, resolve, Sem.run_bind, hc, Deferred.ofValue, Sem.run_pure, Result.andThen_ok, invoke]
        rw [hcall]
        simp
      rw [hrun]
      unfold callP at hx
      split at hx
      · rename_i hcond
        split at hx
        · rename_i r outs hr
          split at hx
          · rename_i b' hnp hput
            cases hx
            obtain ⟨hargs, hdom⟩ := args_P h (hE.high _ h.j) args.toList hcond.1
            have hnd := nodup_map h hcond.2.1 hdom
            have := hfun m w (args.map a.eval) _ _ r outs hr (by simpa using hargs) hnd (hE.keep _ _ _ h.par.2.2 h.j h.below) h.glob
            refine this.mono ?_
            rintro e w' ⟨v, m', rfl, hv, hb, hm, ho⟩
            refine hK _ _ m' β ?_
            exact (h.callP hdom hb hm ho hput (fun s hs => by have := List.all_eq_true.1 hcond.2.2 s hs; simpa using this)).put hd (.of hv.bare) (bare_tok _) (fun s sz len cs e => by have e : r.bare = _ := e; exact (e ▸ hv.bare).not_row.elim)
          · cases hx
        · cases hx
      · cases hx
    · split at hx
      · rename_i u hu
        cases hx
        simp only [valV, hf] at hu
        split at hu
        · rename_i F hF
          split at hu
          · rename_i hdat
            have hr := (np_some hu).1
            obtain ⟨hcall, hfun⟩ := hE.fn f F hF
            have hrun : (execOp a.eval o).run E.P w = .ok (.enter f (args.map a.eval)) w := by
              simp only [execOp, ho, resolve, Sem.run_bind, hc, Deferred.ofValue, Sem.run_pure, Result.andThen_ok, invoke]
              rw [hcall]
              simp
            rw [hrun]
            have := hfun m w (args.map a.eval) _ _ hr hdat (by simpa using args_rd h args.toList hdat) (hE.keep _ _ _ h.par.2.2 h.j h.below) h.glob
            refine this.mono ?_
            rintro e w' ⟨v, m', rfl, hv, hb, hm⟩
            refine hK _ _ m' β ?_
            rw [keepV_eq]
            exact (h.call hb hm).put hd (.of hv.bare) (bare_tok _) (fun s sz len cs e => by have e : u.bare = _ := e; exact (e ▸ hv.bare).not_row.elim)
          · simp at hu
        · simp at hu
      · cases hx
  · rename_i hnl _ _ hnb hnc
    split at hx
    · rename_i u hu
      cases hx
      unfold valV at hu
      split at hu
      · rename_i t p ho
        exact absurd ho (hnl t p)
      · rename_i c args ts ho
        exact absurd ho (hnc c args ts)
      · rename_i t len parts ho
        exact absurd ho (hnb t len parts)
      · by_cases hmv : isMv o.op = true
        · obtain ⟨x, hr, rfl⟩ := move_sound (P := E.P) (ρ := a.eval) (w := w) (fun x => ev_sound h x) hmv hu
          rw [hr]
          refine hK _ _ m β ?_
          simp only [keepV_eq, hmv, cond_true]
          refine h.put hd (ev_sound h x) (fun sz es s he => ?_) (fun s sz len cs he hb => ?_)
          · cases x with
            | tmp k => exact .inl ⟨k, rfl, rfl⟩
            | const v => simp only [ev, ofVal] at he; split at he <;> cases he
            | global g => simp only [ev, bare_eq] at he; generalize E.G g = u at he; cases u <;> cases he
            | func f => cases he
          · obtain ⟨i, rfl, hi⟩ := ev_row h he
            exact h.own i s sz len cs hi hb
        · simp only [Bool.not_eq_true] at hmv
          by_cases hrw : ∃ s sz len, u = .row s sz len
          · obtain ⟨s, sz, len, rfl⟩ := hrw
            obtain ⟨v, hr, hv, ho⟩ := pureV_own h hmv hu
            rw [hr]
            refine hK _ _ m β ?_
            rw [keepV_row]
            exact h.put hd hv (fun sz es s he => by cases he) (fun s sz len cs he hb => by cases he; exact ho cs hb)
          · obtain ⟨v, hr, hv⟩ := pureV_sound (ρ := a.eval) (fun x => ev_sound h x) hu
            rw [hr]
            refine hK _ _ m β ?_
            simp only [keepV_eq]
            rw [hmv]
            refine h.put hd hv.bare (bare_tok _) (fun s sz len cs e => ?_)
            exfalso
            have e : u.bare = _ := e
            rw [bare_eq] at e
            cases u <;> first | exact hrw ⟨_, _, _, rfl⟩ | cases e
    · simp at hx
end
end Go.Proofs.YtfmdcgakkijkdaaGreatDoor
