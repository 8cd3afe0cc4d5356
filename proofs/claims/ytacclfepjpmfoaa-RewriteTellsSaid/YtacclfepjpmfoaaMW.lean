/- Rows that the call made and that its run does not know at present: kept beside the run; taken up to be written, and put down again. No program is named here. -/
import Derived.Test.YtacclfepjpmfoaaMI
import Derived.Test.YtacclfepjpmfoaaMT
import Derived.Test.YtacclfepjpmfoaaLClone
namespace Go.Proofs.Ytacclfepjpmfoaa
open Go Go.RowKit

/-- A row in a block of its own, that nobody's reading leans on. -/
structure Loose (K : Nat) (sz : Nat) (m : Lim) (w : World) (v : Value) (es : List V) (g : Nat) : Prop where
  box : BoxAt m w g (es.flatMap V.cells)
  low : K ≤ g
  is : ∃ cap cur ty, v = .slice (some ⟨g, 0, none⟩) es.length cap ∧ w.heap[g]? = some (.cells cur ty (0, 0)) ∧ es.length ≤ cap ∧ cur.size = cap * sz
/-- Several, each in a block of its own; or of nothing. -/
inductive Bed (K : Nat) (sz : Nat) (m : Lim) (w : World) : List (Value × List V) → List Nat → Prop
  | nil : Bed K sz m w [] []
  | no {l : List (Value × List V)} {gs : List Nat} (h : Bed K sz m w l gs) : Bed K sz m w ((.slice none 0 0, []) :: l) gs
  | row {v : Value} {es : List V} {g : Nat} {l : List (Value × List V)} {gs : List Nat} (hne : es ≠ []) (h1 : Loose K sz m w v es g) (h2 : g ∉ gs) (h : Bed K sz m w l gs) : Bed K sz m w ((v, es) :: l) (g :: gs)
section
variable {E : Env} {n sz : Nat} {D : List Deferred} {m m' ms : Lim} {ws w w' : World} {st : St} {a : Act} {O S : Nat → Prop} {r : Option Nat}
theorem Loose.lt {K : Nat} {v : Value} {es : List V} {g : Nat} (h : Loose K sz m w v es g) : g < w.heap.size := by
  obtain ⟨_, _, _, _, hh, _⟩ := h.is
  exact heap_lt hh
theorem BoxAt.stab {g : Nat} {cs : List V} (h : BoxAt m w g cs) (hs : Step S m w m' w') (hS : ¬ S g) : BoxAt m' w' g cs := by
  obtain ⟨hl, vals, ty, xs, rest, hh, hx, hr⟩ := h
  obtain ⟨h1, h2⟩ := hs.same g (heap_lt hh) hS
  exact ⟨by rw [h2]; exact hl, vals, ty, xs, rest, by rw [h1]; exact hh, hx, hr.mono hs.ext⟩
theorem Loose.stab {K : Nat} {v : Value} {es : List V} {g : Nat} (h : Loose K sz m w v es g) (hs : Step S m w m' w') (hS : ¬ S g) : Loose K sz m' w' v es g := by
  obtain ⟨h1, h2, cap, cur, ty, q1, q2, q3⟩ := h
  exact ⟨h1.stab hs hS, h2, cap, cur, ty, q1, by rw [(hs.same g (heap_lt q2) hS).1]; exact q2, q3⟩
theorem Bed.lt {K : Nat} {P : List (Value × List V)} {gs : List Nat} (h : Bed K sz m w P gs) : ∀ g ∈ gs, g < w.heap.size := by
  induction h with
  | nil => exact fun g hg => by cases hg
  | no _ ih => exact ih
  | row _ h1 _ _ ih =>
    intro g hg
    rcases List.mem_cons.1 hg with rfl | hg
    · exact h1.lt
    · exact ih g hg
theorem Bed.stab {K : Nat} {P : List (Value × List V)} {gs : List Nat} (h : Bed K sz m w P gs) (hs : Step S m w m' w') (hS : ∀ g ∈ gs, ¬ S g) : Bed K sz m' w' P gs := by
  induction h with
  | nil => exact .nil
  | no _ ih => exact .no (ih hS)
  | row hne h1 h2 _ ih => exact .row hne (h1.stab hs (hS _ (List.mem_cons_self ..))) h2 (ih fun g hg => hS g (List.mem_cons_of_mem _ hg))

theorem Bed.slice {K : Nat} {v : Value} {es : List V} {P : List (Value × List V)} {gs : List Nat} (h : Bed K sz m w ((v, es) :: P) gs) : ∃ ao ln cp, v = .slice ao ln cp := by
  cases h with
  | no _ => exact ⟨_, _, _, rfl⟩
  | row _ h1 _ _ =>
    obtain ⟨cap, _, _, e, _⟩ := h1.is
    exact ⟨_, _, _, e⟩
/-- A variable, or a row, of the call's own is the run's no more. -/
theorem Now.shed (hMB : ∀ s, E.MB s = false) (h : Now E n D O m st a w) {s : Nat} {cs : List V} (hb : st.b s = some cs) {st' : St} (hl : Le st' st) (hbn : st'.b s = none) :
    ∃ g, O g ∧ E.K ≤ g ∧ BoxAt m w g cs ∧ (∀ i, st.t i = .ptr s 0 → a.tmps.getD i Go.undef = .pointer (some ⟨g, 0, none⟩)) ∧
      (∀ i sz len, st.t i = .row s sz len → len * sz ≤ cs.length ∧ ∃ cap cur ty, a.tmps.getD i Go.undef = .slice (some ⟨g, 0, none⟩) len cap ∧ w.heap[g]? = some (.cells cur ty (0, 0)) ∧ len ≤ cap ∧ cur.size = cap * sz) ∧
      Now E n D (fun k => O k ∧ k ≠ g) m st' a w := by
  obtain ⟨⟨b, β, hr⟩, hlt⟩ := h
  have hr' := hr.le hl
  obtain ⟨hbox, hge⟩ := hr.boxes s cs hb
  have hgsz : β s < w.heap.size := by obtain ⟨_, _, _, _, _, hh, _⟩ := hbox; exact heap_lt hh
  have hO : O (β s) := by
    rcases hge with hge | hge
    · exact absurd hgsz (Nat.not_lt.2 hge)
    · exact (mem_lst.1 hge).2
  have hin : ∀ x, x < w.heap.size → (w.heap.size ≤ x ∨ x ∈ lst O w.heap.size) → x ≠ β s → x ∈ lst (fun k => O k ∧ k ≠ β s) w.heap.size := fun x hx ho hne => by
    rcases ho with ho | ho
    · exact absurd hx (Nat.not_lt.2 ho)
    · exact mem_lst.2 ⟨hx, (mem_lst.1 ho).2, hne⟩
  refine ⟨β s, hO, hr.par.2.2 _ (mem_lst.2 ⟨hgsz, hO⟩), hbox, fun i hi => (hi ▸ hr.tmps i : Rs m w β _ (.ptr s 0)).ptr, fun i sz len hi => ?_, ⟨⟨b, β, ⟨hr'.tmps, hr'.size, fun s' cs' hs' => ?_, hr'.inj, Bel.refl _ _, ⟨hr'.par.1, hr'.par.2.1, fun x hx => ?_⟩, ⟨fun _ _ _ => rfl, Ext.refl _ _, fun y hy => hy⟩, ?_, hr'.own, hr'.defers, hr'.glob, hr'.j, ?_⟩⟩, fun k hk => hlt k hk.1⟩⟩
  · obtain ⟨cap0, e0, hle⟩ := (hi ▸ hr.tmps i : Rs m w β _ (.row s sz len)).row
    obtain ⟨h1, cap, cur, ty, h2, h3, h4⟩ := hr.own i s sz len cs hi hb
    have e1 : a.tmps.getD i Go.undef = .slice (some ⟨β s, 0, none⟩) len cap := h2
    rw [e0] at e1
    cases e1
    exact ⟨h1, cap0, cur, ty, e0, h3, hle, h4⟩
  · obtain ⟨h1, h2⟩ := hr'.boxes s' cs' hs'
    have hlt' : β s' < w.heap.size := by obtain ⟨_, _, _, _, _, hh, _⟩ := h1; exact heap_lt hh
    refine ⟨h1, .inr (hin _ hlt' h2 fun e => ?_)⟩
    obtain ⟨c0, hc0, _⟩ := hl.b s' cs' hs'
    have : s' = s := hr.inj s' s c0 cs hc0 hb e
    rw [this, hbn] at hs'
    cases hs'
  · obtain ⟨q1, q2, _⟩ := mem_lst.1 hx
    exact hr.par.2.2 x (mem_lst.2 ⟨q1, q2⟩)
  · obtain ⟨ρ, hrw⟩ := hr.rows
    have hB : ∀ v sz es s', Bear E w β st' (fun i => a.tmps.getD i Go.undef) v (.sl false sz es (some s')) → Bear E w β st (fun i => a.tmps.getD i Go.undef) v (.sl false sz es (some s')) := by
      rintro v sz es s' (⟨i, h1, h2⟩ | ⟨k, _, _, hk, _⟩)
      · refine .inl ⟨i, ?_, h2⟩
        rcases hl.t i with h0 | h0 | ⟨_, _, _, _, h0, _⟩
        · rw [h0] at h1; cases h1
        · rw [← h0]; exact h1
        · rw [h0] at h1; cases h1
      · rw [hMB] at hk; cases hk
    refine ⟨ρ, fun v sz es s' hi => ?_, fun v sz es s1 v' sz' es' s2 hi hi' e => hrw.sep _ _ _ _ _ _ _ _ (hB _ _ _ _ hi) (hB _ _ _ _ hi') e, fun v sz es s1 k c hi hk => ?_⟩
    · obtain ⟨lo, lim, cap, cur, ty, hv, hh, hc, hs⟩ := hrw.row _ _ _ _ (hB _ _ _ _ hi)
      exact ⟨.inr (hin _ (heap_lt hh) lo fun e => hrw.box _ _ _ _ s cs (hB _ _ _ _ hi) hb e.symm), lim, cap, cur, ty, hv, hh, hc, hs⟩
    · obtain ⟨c0, hc0, _⟩ := hl.b k c hk
      exact hrw.box _ _ _ _ _ _ (hB _ _ _ _ hi) hc0
  · refine ⟨fun i s' ks vs hi => ?_, hr'.maps.inj⟩
    obtain ⟨h1, h2⟩ := hr'.maps.holds i s' ks vs hi
    obtain ⟨ents, clock, hh, hrest⟩ := h1
    refine ⟨⟨ents, clock, hh, hrest⟩, .inr (hin _ (heap_lt hh) h2 fun e => ?_)⟩
    obtain ⟨_, vals, ty, xs, rest, hh', _⟩ := hbox
    rw [e, hh'] at hh
    cases hh
/-- What was nobody's is the run's own: a row, under a name that nobody bears. -/
theorem Now.take (hMB : ∀ s, E.MB s = false) (h : Now E n D O m st a w) {v : Value} {es : List V} {g : Nat} (hL : Loose E.K sz m w v es g) (hlen : ∀ e ∈ es, e.cells.length = sz) (hO : ¬ O g) {d s : Nat} (hv : a.tmps.getD d Go.undef = v) (hno : noPtrTo s st.t) (hs : s < n) :
    Now E n D (fun k => O k ∨ k = g) m ⟨upd st.t d (.row s sz es.length), upd st.b s (some (es.flatMap V.cells))⟩ a w := by
  obtain ⟨⟨b, β, hr⟩, hlt⟩ := h
  obtain ⟨hbx, hlow, cap, cur, ty, hve, hh, hcap, hcs⟩ := hL
  have hbg : ∀ {s' : Nat} {cs' : List V}, st.b s' = some cs' → β s' ≠ g := fun {s' cs'} hs' e => by
    obtain ⟨⟨_, _, _, _, _, hh', _⟩, hge⟩ := hr.boxes s' cs' hs'
    rcases hge with hge | hge
    · exact absurd (heap_lt hh') (Nat.not_lt.2 hge)
    · exact hO (e ▸ (mem_lst.1 hge).2)
  have hin : ∀ x, x < w.heap.size → (w.heap.size ≤ x ∨ x ∈ lst O w.heap.size) → x ∈ lst (fun k => O k ∨ k = g) w.heap.size := fun x hx ho => by
    rcases ho with ho | ho
    · exact absurd hx (Nat.not_lt.2 ho)
    · exact mem_lst.2 ⟨hx, .inl (mem_lst.1 ho).2⟩
  have hfl : (es.flatMap V.cells).length = es.length * sz := by
    clear hbx hcap hve
    induction es with
    | nil => simp
    | cons e es ih =>
      rw [List.flatMap_cons, List.length_append, ih (fun x hx => hlen x (List.mem_cons_of_mem _ hx)), hlen e (List.mem_cons_self ..), List.length_cons, Nat.add_mul, Nat.one_mul, Nat.add_comm]
  have hbeta : ∀ s', s' ≠ s → upd β s g s' = β s' := fun s' hs' => upd_ne _ _ hs'
  refine ⟨⟨b, upd β s g, ⟨fun i => ?_, hr.size, fun s' cs' hs' => ?_, fun s1 s2 c1 c2 h1 h2 heq => ?_, Bel.refl _ _, ⟨hr.par.1, fun s' hs' => (hbeta s' (by have := hr.par.1; omega)).trans (hr.par.2.1 s' hs'), fun x hx => ?_⟩, ⟨fun _ _ _ => rfl, Ext.refl _ _, fun y hy => hy⟩, ?_, fun i s' sz' len' cs' hi hb => ?_, hr.defers, hr.glob, hr.j, ?_⟩⟩, fun k hk => ?_⟩
  · show Rs m w (upd β s g) _ (upd st.t d (.row s sz es.length) i)
    by_cases e : i = d
    · subst e
      rw [upd_same, hv, hve]
      have := Rs.ofRow (m := m) (w := w) (β := upd β s g) s sz hcap
      rwa [upd_same] at this
    · rw [upd_ne _ _ e]
      exact (hr.tmps i).beta (fun s' hs' => hbeta s' (fun e => hno i (by rw [hs', e])))
  · have hs' : upd st.b s (some (es.flatMap V.cells)) s' = some cs' := hs'
    by_cases e : s' = s
    · subst e
      rw [upd_same] at hs' ⊢
      cases hs'
      exact ⟨hbx, .inr (mem_lst.2 ⟨heap_lt hh, .inr rfl⟩)⟩
    · rw [upd_ne _ _ e] at hs' ⊢
      obtain ⟨h1, h2⟩ := hr.boxes s' cs' hs'
      have hlt' : β s' < w.heap.size := by obtain ⟨_, _, _, _, _, hh, _⟩ := h1; exact heap_lt hh
      exact ⟨h1, .inr (hin _ hlt' h2)⟩
  · have h1 : upd st.b s (some (es.flatMap V.cells)) s1 = some c1 := h1
    have h2 : upd st.b s (some (es.flatMap V.cells)) s2 = some c2 := h2
    by_cases e1 : s1 = s
    · by_cases e2 : s2 = s
      · rw [e1, e2]
      · subst e1
        rw [upd_ne _ _ e2] at h2
        rw [upd_same, hbeta _ e2] at heq
        exact absurd heq.symm (hbg h2)
    · by_cases e2 : s2 = s
      · subst e2
        rw [upd_ne _ _ e1] at h1
        rw [upd_same, hbeta _ e1] at heq
        exact absurd heq (hbg h1)
      · rw [upd_ne _ _ e1] at h1
        rw [upd_ne _ _ e2] at h2
        rw [hbeta _ e1, hbeta _ e2] at heq
        exact hr.inj _ _ _ _ h1 h2 heq
  · obtain ⟨q1, q2⟩ := mem_lst.1 hx
    rcases q2 with q2 | rfl
    · exact hr.par.2.2 x (mem_lst.2 ⟨q1, q2⟩)
    · exact hlow
  · obtain ⟨ρ, hrw⟩ := hr.rows
    have hB : ∀ v sz' es' s', Bear E w (upd β s g) ⟨upd st.t d (.row s sz es.length), upd st.b s (some (es.flatMap V.cells))⟩ (fun i => a.tmps.getD i Go.undef) v (.sl false sz' es' (some s')) → Bear E w β st (fun i => a.tmps.getD i Go.undef) v (.sl false sz' es' (some s')) := by
      rintro v sz' es' s' (⟨i, h1, h2⟩ | ⟨k, _, _, hk, _⟩)
      · have h1 : upd st.t d (.row s sz es.length) i = .sl false sz' es' (some s') := h1
        by_cases e : i = d
        · rw [e, upd_same] at h1; cases h1
        · rw [upd_ne _ _ e] at h1
          exact .inl ⟨i, h1, h2⟩
      · rw [hMB] at hk; cases hk
    refine ⟨ρ, fun v sz' es' s' hi => ?_, fun v sz es s1 v' sz' es' s2 hi hi' e => hrw.sep _ _ _ _ _ _ _ _ (hB _ _ _ _ hi) (hB _ _ _ _ hi') e, fun v sz' es' s1 k c hi hk => ?_⟩
    · obtain ⟨lo, lim, cap, cur, ty, hv, hh, hc, hs⟩ := hrw.row _ _ _ _ (hB _ _ _ _ hi)
      exact ⟨.inr (hin _ (heap_lt hh) lo), lim, cap, cur, ty, hv, hh, hc, hs⟩
    · have hk : upd st.b s (some (es.flatMap V.cells)) k = some c := hk
      obtain ⟨lo, lim, cap, cur, ty, _, hh', _⟩ := hrw.row _ _ _ _ (hB _ _ _ _ hi)
      by_cases e : k = s
      · subst e
        rw [upd_same]
        rintro rfl
        rcases lo with lo | lo
        · exact absurd (heap_lt hh') (Nat.not_lt.2 lo)
        · exact hO (mem_lst.1 lo).2
      · rw [upd_ne _ _ e] at hk
        rw [hbeta _ e]
        exact hrw.box _ _ _ _ _ _ (hB _ _ _ _ hi) hk
  · replace hi : upd st.t d (.row s sz es.length) i = .row s' sz' len' := hi
    replace hb : upd st.b s (some (es.flatMap V.cells)) s' = some cs' := hb
    by_cases e : i = d
    · subst e
      rw [upd_same] at hi
      cases hi
      rw [upd_same] at hb
      cases hb
      refine ⟨by rw [hfl]; exact Nat.le_refl _, cap, cur, ty, ?_, ?_, hcs⟩
      · rw [upd_same]; exact hv.trans hve
      · rw [upd_same]; exact hh
    · rw [upd_ne _ _ e] at hi
      have hne : s' ≠ s := fun e' => hno i (by rw [hi, e']; rfl)
      rw [upd_ne _ _ hne] at hb
      have := hr.own i s' sz' len' cs' hi hb
      exact ⟨this.fit, by rw [hbeta _ hne]; exact this.is⟩
  · refine ⟨fun i s' ks vs hi => ?_, fun i j s1 s2 ks1 vs1 ks2 vs2 hi hj e => ?_⟩
    · have hi : upd st.t d (.row s sz es.length) i = .mp s' ks vs := hi
      by_cases e : i = d
      · rw [e, upd_same] at hi; cases hi
      · rw [upd_ne _ _ e] at hi
        have hne : s' ≠ s := fun e' => hno i (by rw [hi, e']; rfl)
        rw [hbeta _ hne]
        obtain ⟨⟨ents, clock, hh, hrest⟩, h2⟩ := hr.maps.holds i s' ks vs hi
        exact ⟨⟨ents, clock, hh, hrest⟩, .inr (hin _ (heap_lt hh) h2)⟩
    · have hi : upd st.t d (.row s sz es.length) i = .mp s1 ks1 vs1 := hi
      have hj : upd st.t d (.row s sz es.length) j = .mp s2 ks2 vs2 := hj
      by_cases e1 : i = d
      · rw [e1, upd_same] at hi; cases hi
      · by_cases e2 : j = d
        · rw [e2, upd_same] at hj; cases hj
        · rw [upd_ne _ _ e1] at hi
          rw [upd_ne _ _ e2] at hj
          rw [hbeta _ (fun e' => hno i (by rw [hi, e']; rfl)), hbeta _ (fun e' => hno j (by rw [hj, e']; rfl))] at e
          exact hr.maps.inj _ _ _ _ _ _ _ _ hi hj e
  · rcases hk with hk | rfl
    · exact hlt k hk
    · exact heap_lt hh
/-- A slot's value is known to be so much. -/
theorem Now.learn (h : Now E n D O m st a w) {d : Nat} (hd : d < n) {u : V} (hv : Rd m w (a.tmps.getD d Go.undef) u) : Now E n D O m ⟨upd st.t d u.bare, st.b⟩ a w := by
  have hz : a.tmps.size = n := by obtain ⟨_, _, hr⟩ := h.rel; exact hr.size
  have := h.put hd hv
  have e : a.put (some d) (a.tmps.getD d Go.undef) = a := by
    have : a.tmps.setIfInBounds d (a.tmps.getD d Go.undef) = a.tmps := by
      apply Array.ext_getElem?
      intro i
      rw [Array.getElem?_setIfInBounds]
      split
      · rename_i e
        subst e
        rw [if_pos (by omega), Array.getD_eq_getD_getElem?, Array.getElem?_eq_getElem (by omega)]
        rfl
      · rfl
    show ({ a with tmps := _ } : Act) = a
    rw [this]
  rw [e] at this
  exact this
/-- From here on a block that is nobody's stays as it is. -/
theorem Step.freeze (g : Nat) (m : Lim) (w : World) : Step (fun k => k = g) m w (upd m g none) w := by
  refine ⟨rfl, rfl, rfl, ⟨Nat.le_refl _, fun _ _ _ _ _ h => h, fun blk _ fr' hf => ?_⟩, fun k _ hk => ⟨rfl, upd_ne _ _ hk⟩⟩
  by_cases e : blk = g
  · rw [e, upd_same] at hf; cases hf
  · rw [upd_ne _ _ e] at hf; exact ⟨fr', hf, Nat.le_refl _⟩

/-- What a part of the call's run is reckoned from. -/
structure Hb where
  Kn : Kno
  W : Nat → Bool
  t0 : Array Value
  ms : Lim
  ws : World
/-- The call's run, and rows beside it. -/
def Hold (E : Env) (n sz : Nat) (B : Hb) (P : List (Value × List V)) (st : St) (a : Act) (w : World) : Prop :=
  ∃ m O gs, Now E n [] O m st a w ∧ Bed E.K sz m w P gs ∧ (∀ g ∈ gs, ¬ O g ∧ B.ws.heap.size ≤ g) ∧ (∀ k, O k → B.ws.heap.size ≤ k) ∧ Step (fun _ => False) B.ms B.ws m w ∧ B.Kn.P m w ∧ KeepT B.W B.t0 a.tmps
variable {B : Hb} {P : List (Value × List V)}
theorem Hold.le {st' : St} (h : Hold E n sz B P st a w) (hl : Le st' st) : Hold E n sz B P st' a w := by
  obtain ⟨m, O, gs, h1, h2⟩ := h
  exact ⟨m, O, gs, h1.le hl, h2⟩
theorem Hold.grown {a' : Act} {st' : St} {gs : List Nat} (h2 : Bed E.K sz m w P gs) (h3 : ∀ g ∈ gs, ¬ O g ∧ B.ws.heap.size ≤ g) (h4 : ∀ k, O k → B.ws.heap.size ≤ k) (h5 : Step (fun _ => False) B.ms B.ws m w) (h6 : B.Kn.P m w) (hkt : KeepT B.W B.t0 a'.tmps)
    (hn : Now E n [] (grew O w w') m' st' a' w') (hs : Step O m w m' w') : Hold E n sz B P st' a' w' := by
  refine ⟨m', _, gs, hn, h2.stab hs (fun g hg => (h3 g hg).1), fun g hg => ⟨fun hgr => ?_, (h3 g hg).2⟩, fun k hg => ?_, h5.next hs (fun i hi ho => absurd hi (Nat.not_lt.2 (h4 i ho))), B.Kn.mono _ _ _ _ h6 hs.ext, hkt⟩
  · rcases hgr.2 with ho | ho
    · exact (h3 g hg).1 ho
    · exact absurd (h2.lt g hg) (Nat.not_lt.2 ho)
  · rcases hg.2 with ho | ho
    · exact h4 k ho
    · exact Nat.le_trans h5.ext.size ho
theorem hold_run (hE : EnvOK E) (hm : E.P.follows .mixedOrders = true) {c : Code} {K : Out → St → Prop} (hok : okCode E.any n c = true) (hW : wrC B.W c = true) (h : Hold E n sz B P st a w) (hr : run E c st K) :
    c.wpIn (fen r) 0 E.P (fun e a' w' => ∃ o st', outE e = some o ∧ K o st' ∧ Hold E n sz B P st' a' w') a w := by
  obtain ⟨m, O, gs, h1, h2, h3, h4, h5, h6, h7⟩ := h
  refine wpIn_mono (run_now (r := r) (W := B.W) hE hm hok hW h1 hr) ?_
  rintro e a' w' ⟨hk, o, st', m', ho, hK, hn, hs⟩
  exact ⟨o, st', ho, hK, Hold.grown h2 h3 h4 h5 h6 (h7.trans hk) hn hs⟩
/-- A part of a run that ends behind it. -/
theorem hold_T (hE : EnvOK E) (hm : E.P.follows .mixedOrders = true) {c : Code} (ts : List (Nat × V)) (bs : List (Nat × List V)) (hok : okCode E.any n c = true) (hW : wrC B.W c = true) (h : Hold E n sz B P st a w) (hr : run E c st (endT ts bs)) {Q : Exit → Act → World → Prop}
    (hQ : ∀ a' w', Hold E n sz B P (stOf ts bs) a' w' → Q .normal a' w') : c.wpIn (fen r) 0 E.P Q a w := by
  refine wpIn_mono (hold_run hE hm hok hW h hr) ?_
  rintro e a' w' ⟨o, st', ho, hK, ht⟩
  cases o with
  | ret => exact hK.elim
  | exit id => exact hK.elim
  | normal =>
    cases e <;> simp only [outE, Option.some.injEq, reduceCtorEq] at ho
    exact hQ _ _ (ht.le (le_stOf hK.1 hK.2))
theorem hold_X (hE : EnvOK E) (hm : E.P.follows .mixedOrders = true) {c : Code} (id : Nat) (ts : List (Nat × V)) (bs : List (Nat × List V)) (hok : okCode E.any n c = true) (hW : wrC B.W c = true) (h : Hold E n sz B P st a w) (hr : run E c st (endX id ts bs)) {Q : Exit → Act → World → Prop}
    (hQ : ∀ a' w', Hold E n sz B P (stOf ts bs) a' w' → Q (.exit id) a' w') : c.wpIn (fen r) 0 E.P Q a w := by
  refine wpIn_mono (hold_run hE hm hok hW h hr) ?_
  rintro e a' w' ⟨o, st', ho, hK, ht⟩
  cases o with
  | ret => exact hK.elim
  | normal => exact hK.elim
  | exit i =>
    obtain ⟨rfl, h1, h2⟩ := hK
    cases e <;> simp only [outE, Option.some.injEq, reduceCtorEq, Out.exit.injEq] at ho
    subst ho
    exact hQ _ _ (ht.le (le_stOf h1 h2))
/-- Some operations of a region. -/
theorem hold_ops (hE : EnvOK E) {ops : List Oper} {Q : Exit → Act → World → Prop} (ts : List (Nat × V)) (bs : List (Nat × List V)) (rest : List Nat) : ∀ (l : List Oper) (is : List Nat) (st : St) (a : Act) (w : World), (is.map fun i => ops[i]?) = l.map some → dstsIn n l = true → wrL B.W ops = true →
    Hold E n sz B P st a w → (aopsK E ⟨ops⟩ l st fun st' => leT st' ts ∧ leB st' bs) → (∀ a' w', Hold E n sz B P (stOf ts bs) a' w' → wpOpsIn (fen r) 0 E.P ⟨ops⟩ Q rest a' w') → wpOpsIn (fen r) 0 E.P ⟨ops⟩ Q (is ++ rest) a w
  | [], [], st, a, w, _, _, _, h, hr, hK => hK a w (h.le (le_stOf hr.1 hr.2))
  | [], i :: is, st, a, w, hi, _, _, h, hr, hK => by simp at hi
  | o :: l, [], st, a, w, hi, _, _, h, hr, hK => by simp at hi
  | o :: l, i :: is, st, a, w, hi, hd, hWo, h, hr, hK => by
    rw [List.cons_append, wpOpsIn_cons]
    simp only [List.map_cons, List.cons.injEq] at hi
    obtain ⟨st', hs, hl, hb⟩ := aopsK_out _ _ hr
    unfold aopsV at hs
    split at hs
    · rename_i st1 h1
      obtain ⟨m, O, gs, q1, q2, q3, q4, q5, q6, q7⟩ := h
      have hlt := q1.lt
      obtain ⟨b, β, hrel⟩ := q1.rel
      have hi1 : (⟨ops⟩ : Array Oper)[i]? = some o := by simpa using hi.1
      have hwp : wpOpIn (fen r) 0 E.P ⟨ops⟩ Q i (fun a' w' => Hold E n sz B P st1 a' w' ∨ (∃ m' β', Rel E n ⟨lst O w.heap.size, b, lst O w.heap.size, []⟩ m w m' β' st1 a' w')) a w := aopV_sound hE.x hrel hi1 (dstsIn_of hd (by simp)) h1 (fun a' w' m' β' hr' => .inr ⟨m', β', hr'⟩)
      have hkeep := wpOpIn_keep (W := B.W) (t := B.t0) (by simpa using hWo) q7 (K' := fun a' w' => Hold E n sz B P st1 a' w') (fun a' w' hK' hkt => by
        rcases hK' with hK' | ⟨m', β', hr'⟩
        · exact hK'
        · obtain ⟨hn, hst⟩ := Now.of_rel hE hlt hr'
          exact Hold.grown q2 q3 q4 q5 q6 hkt hn hst) hwp
      have hdl : dstsIn n l = true := by simp only [dstsIn, List.all_cons, Bool.and_eq_true] at hd; exact hd.2
      exact wpOpIn_weak (fun a' w' h' => hold_ops hE ts bs rest l is st1 a' w' hi.2 hdl hWo h' (aopsK_in _ _ hs ⟨hl, hb⟩) hK) (fun e a' w' h' => h'.1) hkeep
    · cases hs
/-- Operations k, k + 1, .. of a region (j of them). -/
theorem hold_S (hE : EnvOK E) {ops : List Oper} {Q : Exit → Act → World → Prop} (k j : Nat) (ts : List (Nat × V)) (bs : List (Nat × List V)) (rest : List Nat) (hl : k + j ≤ ops.length) (hd : dstsIn n ((ops.drop k).take j) = true) (hW : wrL B.W ops = true)
    (h : Hold E n sz B P st a w) (hr : aopsK E ⟨ops⟩ ((ops.drop k).take j) st fun st' => leT st' ts ∧ leB st' bs) (hK : ∀ a' w', Hold E n sz B P (stOf ts bs) a' w' → wpOpsIn (fen r) 0 E.P ⟨ops⟩ Q rest a' w') : wpOpsIn (fen r) 0 E.P ⟨ops⟩ Q (List.range' k j ++ rest) a w :=
  hold_ops hE ts bs rest _ _ st a w (range_ops ops k j hl) hd hW h hr hK
/-- An operation, by what it does to the very memory: it yields a value, and maybe makes memory. -/
theorem hold_raw {ops : List Oper} {Q : Exit → Act → World → Prop} {i : Nat} {rest : List Nat} {o : Oper} {d : Tmp} (hi : ops[i]? = some o) (hdef : ∀ c, o.op ≠ .defer c) (hd : o.dst = some d) (hg : o.guard = none) {v : Value} {w' : World} (hrun : (execOp a.eval o).run E.P w = .ok (.value v) w')
    (hK : wpOpsIn (fen r) 0 E.P ⟨ops⟩ Q rest (a.put (some d) v) w') : wpOpsIn (fen r) 0 E.P ⟨ops⟩ Q (i :: rest) a w := by
  rw [wpOpsIn_cons]
  unfold wpOpIn
  have hi' : (⟨ops⟩ : Array Oper)[i]? = some o := by simpa using hi
  rw [hi']
  simp only
  rw [if_pos (by unfold Region.wanted; rw [hg])]
  refine ⟨fun _ _ => trivial, ?_⟩
  rw [Oper.semAt_eq _ _ _ hdef, hrun]
  show wpOpsIn (fen r) 0 E.P ⟨ops⟩ Q rest (a.put o.dst v) w'
  rw [hd]
  exact hK
/-- A call of whatever function value, by what it makes of the very values. -/
theorem hold_call {ops : List Oper} {Q : Exit → Act → World → Prop} {i : Nat} {rest : List Nat} {o : Oper} {d : Tmp} {c : Operand} {f : FuncId} {lb : Array Value} {args : Array Operand} {ts : Array TypeId} {R : Value → World → Prop} (hi : ops[i]? = some o) (hop : o.op = .call { callee := .value c, args := args, argTypes := ts }) (hd : o.dst = some d) (hg : o.guard = none)
    (hc : a.eval c = .func (.func f) #[] lb) (hcall : ∀ args w, (callFunc f args).run E.P w = .ok (.enter f args) w) (hcalls : Calls E.P f (args.map a.eval ++ lb) w fun e w' => ∃ v, e = .returned v ∧ R v w')
    (hK : ∀ v w', R v w' → wpOpsIn (fen r) 0 E.P ⟨ops⟩ Q rest (a.put (some d) v) w') : wpOpsIn (fen r) 0 E.P ⟨ops⟩ Q (i :: rest) a w := by
  rw [wpOpsIn_cons]
  unfold wpOpIn
  have hi' : (⟨ops⟩ : Array Oper)[i]? = some o := by simpa using hi
  rw [hi']
  simp only
  rw [if_pos (by unfold Region.wanted; rw [hg])]
  refine ⟨fun _ _ => trivial, ?_⟩
  rw [Oper.semAt_eq _ _ _ (by rw [hop]; intro c e; cases e)]
  have hrun : (execOp a.eval o).run E.P w = .ok (.enter f (args.map a.eval ++ lb)) w := by
    simp only [execOp, hop, resolve, Sem.run_bind, hc, Deferred.ofValue, Sem.run_pure, Result.andThen_ok, invoke]
    simpa using hcall _ _
  rw [hrun]
  refine ⟨(fun e => by cases e), callsIn_fen.2 (hcalls.mono ?_)⟩
  rintro e w' ⟨v, rfl, hr⟩
  show wpOpsIn (fen r) 0 E.P ⟨ops⟩ Q rest (a.put o.dst v) w'
  rw [hd]
  exact hK v w' hr
/-- A call at its beginning. -/
theorem Hold.start {vs : Array Value} {us : List V} {k : Nat} (hr : RdL m w vs.toList us) (hdat : us.all V.dat = true) (hl : us.length = k) (hk : k ≤ n) (hn1 : n ≤ 1000) (hj : E.J w) (hg : ∀ g, Rd m w (.pointer (some ⟨g, 0, none⟩)) (E.G g)) {Kn : Kno} (hkn : Kn.P m w) :
    Hold E n sz ⟨Kn, fun _ => true, #[], m, w⟩ [] (start us) { tmps := vs ++ Array.replicate (n - vs.size) Go.undef, defers := [] } w :=
  ⟨m, _, [], Now.first (rel_start hr hdat hl hk hn1 hj hg), .nil, fun _ h => (by cases h), fun _ h => h.elim, Step.refl _ _ _, hkn, fun i hi => by cases hi⟩
/-- What a call makes of very values, out of its body. -/
theorem calls_of_hold {f : FuncId} {fn : Func} {c : Code} {vs : Array Value} {us : List V} {k : Nat} {R : Value → World → Prop} (hf : E.P.funcs[f]? = some fn) (hb : fn.body = some c) (hn : fn.ntmps = n) (hk : k ≤ n) (hn1 : n ≤ 1000)
    (hr : RdL m w vs.toList us) (hdat : us.all V.dat = true) (hl : us.length = k) (hj : E.J w) (hg : ∀ g, Rd m w (.pointer (some ⟨g, 0, none⟩)) (E.G g)) {Kn : Kno} (hkn : Kn.P m w)
    (hbody : ∀ a : Act, Hold E n sz ⟨Kn, fun _ => true, #[], m, w⟩ [] (start us) a w → c.wpIn (fen none) 0 E.P (fun e a' w' => (e = .normal ∨ e = .ret) ∧ ∃ B' P' st' r, Hold E n sz B' P' st' a' w' ∧ B'.ms = m ∧ B'.ws = w ∧ resV E st' fn.results.toList = some r ∧
      ∀ v m' gs, Rd m' w' v r → Bed E.K sz m' w' P' gs → (∀ g ∈ gs, w.heap.size ≤ g) → Step (fun _ => False) m w m' w' → B'.Kn.P m' w' → E.J w' → R v w') a w) :
    Calls E.P f vs w fun e w' => ∃ v, e = .returned v ∧ R v w' := by
  refine calls_of_wp hf hb ?_
  rw [hn]
  refine wp_mono (wpIn_wide.1 (hbody _ (Hold.start hr hdat hl hk hn1 hj hg hkn))) ?_
  rintro e a' w' ⟨he, B', P', st', r, ⟨m1, O, gs, h1, h2, h3, h4, h5, h6, h7⟩, hms, hws, hres, hR⟩
  have done : a'.defers = [] ∧ ∃ v, (results fn a'.tmps).run E.P w' = .ok v w' ∧ ∃ v', Ending.returned v = .returned v' ∧ R v' w' := by
    obtain ⟨b, β, hrel⟩ := h1.rel
    obtain ⟨v, hv, hd⟩ := resV_sound hrel hres
    subst hms hws
    exact ⟨hrel.defers, v, hv, v, rfl, hR v m1 gs hd h2 (fun g hg => (h3 g hg).2) h5 h6 h1.J⟩
  rcases he with rfl | rfl
  · exact done
  · exact done
end
end Go.Proofs.Ytacclfepjpmfoaa

/- rewrite.copied: a node with texts and a list of Kids of its own. -/
namespace Go.Proofs.Ytacclfepjpmfoaa
open Go Go.RowKit
set_option linter.unusedSimpArgs false

/-- Texts that may be copied, and not too many kids. -/
def TextsOK (h : Hd) : Prop := h.op.size ≤ 281474976710656 ∧ h.nm.size ≤ 281474976710656 ∧ h.vs.size ≤ 281474976710656 ∧ h.cs.size ≤ 281474976710656 ∧ h.ts.size ≤ 281474976710656
theorem nodes_13 (l : List Nd) : ∀ e ∈ l.map nodeV, e.cells.length = 13 := fun e he => by
  obtain ⟨n, _, rfl⟩ := List.mem_map.1 he
  exact cells_len n
/-- What is made anew out of a row: a block of its own. -/
theorem loose_new {K sz : Nat} {m : Lim} {w : World} {es : List V} {cs : List Value} {zs : Array Value} {ty : TypeId} {cap : Nat} (hK : K ≤ w.heap.size) (hf : Flat m w cs sz es) (hcap : es.length ≤ cap) (hz : zs.size = (cap - es.length) * sz) (_hlen : ∀ e ∈ es, e.cells.length = sz) :
    Step (fun _ => False) m w (upd m w.heap.size (some 0)) (w.drew.alloc (.cells (cs.toArray ++ zs) ty)) ∧ Loose K sz (upd m w.heap.size (some 0)) (w.drew.alloc (.cells (cs.toArray ++ zs) ty)) (.slice (some ⟨w.heap.size, 0, none⟩) es.length cap) es w.heap.size := by
  have he := Ext.fresh m w (.cells (cs.toArray ++ zs) ty) (some 0)
  have hhp : (w.drew.alloc (.cells (cs.toArray ++ zs) ty)).heap[w.heap.size]? = some (.cells (cs.toArray ++ zs) ty (0, 0)) := World.heap_new w.drew _
  refine ⟨⟨rfl, rfl, rfl, he, fun k hk _ => ⟨by rw [Below.heap_alloc w.drew _ k hk]; rfl, upd_ne _ _ (Nat.ne_of_lt hk)⟩⟩, ⟨⟨upd_same _ _ _, _, _, cs, zs.toList, hhp, by simp, rdl_of_flat _ _ (hf.mono he)⟩, hK, cap, _, _, rfl, hhp, hcap, ?_⟩⟩
  rw [Array.size_append, hz]
  simp only [List.size_toArray, hf.len]
  rw [← Nat.add_mul]
  congr 1
  omega
/-- 'append(nil, l...)': nothing, or a block of its own. -/
theorem append_own {P : Program} {K sz : Nat} {m : Lim} {w : World} {t ty el : TypeId} {i : TypeInfo} {zv y : Value} {nl : Bool} {sz0 : Nat} {es : List V} (hu : P.underlying t = some (.slice el)) (hi : P.info? el = some i) (hsz : i.size = sz) (hzv : i.zero = some zv) (hzs : zv.cells.size = sz) (hK : K ≤ w.heap.size)
    (hr : Rd m w y (.sl nl sz0 es none)) (hs : sz0 = sz ∨ es = []) (hlen : ∀ e ∈ es, e.cells.length = sz) (h1 : (es.length : Int) ≤ 9223372036854775807) (h2 : es.length * i.bytes ≤ 281474976710656) :
    ∃ v m' w' gs, (Builtin.append_ #[t, t] ty #[.slice none 0 0, y]).run P w = .ok v w' ∧ Step (fun _ => False) m w m' w' ∧ Bed K sz m' w' [(v, es)] gs ∧ ∀ g ∈ gs, w.heap.size ≤ g := by
  subst hsz
  obtain ⟨cs, hS⟩ := src_sl hu hi hr hs
  by_cases he : es = []
  · have hE := hS.nilE he ty
    subst he
    exact ⟨_, m, w, [], hE, Step.refl _ _ _, .no .nil, fun g hg => by cases hg⟩
  · have hpos : 0 < es.length := List.length_pos_iff.2 he
    have hrun := hS.nil he ty zv hzv hpos h1 h2
    have hge := grownCap_ge w es.length 0 el
    obtain ⟨q1, q2⟩ := loose_new (K := K) (zs := Builtin.zeroCells zv.cells (grownCap w es.length 0 el - es.length)) (ty := el) hK hS.flat hge (by rw [size_zeroCells, hzs]) hlen
    exact ⟨_, _, _, [w.heap.size], hrun, q1, .row he q2 (by simp) .nil, fun g hg => by rw [List.mem_singleton.1 hg]; exact Nat.le_refl _⟩

theorem runOf_read0 {E : Env} {n : Nat} {D : List Deferred} {m : Lim} {w : World} {O : Nat → Prop} {st : St} {a : Act} (h : Now E n D O m st a w) (i : Nat) {u : V} (hi : st.t i = u) (hu : u.dat = true) : Rd m w (a.tmps.getD i Go.undef) u := by
  obtain ⟨b, β, hr⟩ := h.rel
  exact (hi ▸ hr.tmps i : Rs m w β _ u).dat hu
set_option maxHeartbeats 8000000 in
set_option maxRecDepth 100000 in
theorem copied_calls {m : Lim} {w : World} {v : Value} {nd : Nd} (hr : Rd m w v (nodeV nd)) (hT : TextsOK nd.hd) (hn : nd.ks.length ≤ 400) (hj : Glob w) :
    Calls Try.prog 25 #[v] w fun e w' => ∃ v', e = .returned v' ∧ ∃ m' kv gs, Step (fun _ => False) m w m' w' ∧ Glob w' ∧ Rd m' w' v' (.agg (cellsH nd.hd (.x kv))) ∧ Bed globK 13 m' w' [(kv, nd.ks.map nodeV)] gs ∧ ∀ g ∈ gs, w.heap.size ≤ g := by
  have hE : EnvOK (envOf [(32, FClone)]) := envOK_of _ ⟨clone_fun, trivial⟩
  have hm : (envOf [(32, FClone)]).P.follows .mixedOrders = true := by kernel_rfl
  obtain ⟨k, op, nm, vk, vn, vs, cs, cc, cr, ts, tc, tr, ll, nl, sz, hh, hl, hf, hs⟩ := node_cases nd
  rw [hh] at hT ⊢
  rw [hl] at hn ⊢
  obtain ⟨hop, hnm, hvs, hcs, hts⟩ := hT
  simp only at hop hnm hvs hcs hts
  rw [hf] at hr
  refine calls_of_hold (E := (envOf [(32, FClone)])) (n := 34) (sz := 13) (us := [.agg [.x (.int .i64 k), .x (.string op), .x (.string nm), .x (.int .i64 vk), .x (.int .i64 vn), .x (.string vs), .x (.string cs), .x (.int .i64 cc), .x (.int .i64 cr), .x (.string ts), .x (.int .i64 tc), .x (.int .i64 tr), .sl nl sz (ll.map nodeV) none]]) (k := 1) (Kn := Kno.top) Try.func25 rfl Try.ntmps25 (by decide) (by decide) ⟨hr, trivial⟩ (by rfl) rfl hj (fun _ => .undef _) trivial ?_
  intro a h0
  refine wpIn_seq (hold_T hE hm [(1, .ptr 1 0), (2, .ptr 2 0)] [(1, [.x (.int .i64 k), .x (.string op), .x (.string nm), .x (.int .i64 vk), .x (.int .i64 vn), .x (.string vs), .x (.string cs), .x (.int .i64 cc), .x (.int .i64 cr), .x (.string ts), .x (.int .i64 tc), .x (.int .i64 tr), .sl nl sz (ll.map nodeV) none]), (2, [.x (.int .i64 0), .x (.string ⟨#[]⟩), .x (.string ⟨#[]⟩), .x (.int .i64 0), .x (.int .i64 0), .x (.string ⟨#[]⟩), .x (.string ⟨#[]⟩), .x (.int .i64 0), .x (.int .i64 0), .x (.string ⟨#[]⟩), .x (.int .i64 0), .x (.int .i64 0), .sl true 0 [] none])] (by kernel_rfl) (by kernel_rfl) h0 (by simp (decide := true) (maxDischargeDepth := 200) only [go_sem] <;> (repeat' first | rfl | constructor)) ?_)
  clear h0 a
  intro a w1 h1
  refine wpIn_seq (hold_T hE hm [(1, .ptr 1 0), (2, .ptr 2 0)] [(1, [.x (.int .i64 k), .x (.string op), .x (.string nm), .x (.int .i64 vk), .x (.int .i64 vn), .x (.string vs), .x (.string cs), .x (.int .i64 cc), .x (.int .i64 cr), .x (.string ts), .x (.int .i64 tc), .x (.int .i64 tr), .sl nl sz (ll.map nodeV) none]), (2, [.x (.int .i64 0), .x (.string ⟨#[]⟩), .x (.string ⟨#[]⟩), .x (.int .i64 0), .x (.int .i64 0), .x (.string ⟨#[]⟩), .x (.string ⟨#[]⟩), .x (.int .i64 0), .x (.int .i64 0), .x (.string ⟨#[]⟩), .x (.int .i64 0), .x (.int .i64 0), .sl true 0 [] none])] (by kernel_rfl) (by kernel_rfl) h1 (by simp (decide := true) (maxDischargeDepth := 200) only [go_sem, FClone, hop, hnm, hvs, hcs, hts] <;> (repeat' first | rfl | constructor)) ?_)
  clear h1 a w1
  intro a w1 h1
  refine wpIn_seq (hold_T hE hm [(1, .ptr 1 0), (2, .ptr 2 0)] [(1, [.x (.int .i64 k), .x (.string op), .x (.string nm), .x (.int .i64 vk), .x (.int .i64 vn), .x (.string vs), .x (.string cs), .x (.int .i64 cc), .x (.int .i64 cr), .x (.string ts), .x (.int .i64 tc), .x (.int .i64 tr), .sl nl sz (ll.map nodeV) none]), (2, [.x (.int .i64 0), .x (.string ⟨#[]⟩), .x (.string ⟨#[]⟩), .x (.int .i64 0), .x (.int .i64 0), .x (.string ⟨#[]⟩), .x (.string ⟨#[]⟩), .x (.int .i64 0), .x (.int .i64 0), .x (.string ⟨#[]⟩), .x (.int .i64 0), .x (.int .i64 0), .sl true 0 [] none])] (by kernel_rfl) (by kernel_rfl) h1 (by simp (decide := true) (maxDischargeDepth := 200) only [go_sem, FClone, hop, hnm, hvs, hcs, hts] <;> (repeat' first | rfl | constructor)) ?_)
  clear h1 a w1
  intro a w1 h1
  refine wpIn_seq (hold_T hE hm [(1, .ptr 1 0), (2, .ptr 2 0)] [(1, [.x (.int .i64 k), .x (.string op), .x (.string nm), .x (.int .i64 vk), .x (.int .i64 vn), .x (.string vs), .x (.string cs), .x (.int .i64 cc), .x (.int .i64 cr), .x (.string ts), .x (.int .i64 tc), .x (.int .i64 tr), .sl nl sz (ll.map nodeV) none]), (2, [.x (.int .i64 0), .x (.string ⟨#[]⟩), .x (.string ⟨#[]⟩), .x (.int .i64 0), .x (.int .i64 0), .x (.string ⟨#[]⟩), .x (.string ⟨#[]⟩), .x (.int .i64 0), .x (.int .i64 0), .x (.string ⟨#[]⟩), .x (.int .i64 0), .x (.int .i64 0), .sl true 0 [] none])] (by kernel_rfl) (by kernel_rfl) h1 (by simp (decide := true) (maxDischargeDepth := 200) only [go_sem, FClone, hop, hnm, hvs, hcs, hts] <;> (repeat' first | rfl | constructor)) ?_)
  clear h1 a w1
  intro a w1 h1
  refine wpIn_seq (hold_T hE hm [(1, .ptr 1 0), (2, .ptr 2 0)] [(1, [.x (.int .i64 k), .x (.string op), .x (.string nm), .x (.int .i64 vk), .x (.int .i64 vn), .x (.string vs), .x (.string cs), .x (.int .i64 cc), .x (.int .i64 cr), .x (.string ts), .x (.int .i64 tc), .x (.int .i64 tr), .sl nl sz (ll.map nodeV) none]), (2, [.x (.int .i64 0), .x (.string ⟨#[]⟩), .x (.string ⟨#[]⟩), .x (.int .i64 0), .x (.int .i64 0), .x (.string ⟨#[]⟩), .x (.string ⟨#[]⟩), .x (.int .i64 0), .x (.int .i64 0), .x (.string ⟨#[]⟩), .x (.int .i64 0), .x (.int .i64 0), .sl true 0 [] none])] (by kernel_rfl) (by kernel_rfl) h1 (by simp (decide := true) (maxDischargeDepth := 200) only [go_sem, FClone, hop, hnm, hvs, hcs, hts] <;> (repeat' first | rfl | constructor)) ?_)
  clear h1 a w1
  intro a w1 h1
  refine wpIn_seq (hold_T hE hm [(1, .ptr 1 0), (2, .ptr 2 0)] [(1, [.x (.int .i64 k), .x (.string op), .x (.string nm), .x (.int .i64 vk), .x (.int .i64 vn), .x (.string vs), .x (.string cs), .x (.int .i64 cc), .x (.int .i64 cr), .x (.string ts), .x (.int .i64 tc), .x (.int .i64 tr), .sl nl sz (ll.map nodeV) none]), (2, [.x (.int .i64 0), .x (.string ⟨#[]⟩), .x (.string ⟨#[]⟩), .x (.int .i64 0), .x (.int .i64 0), .x (.string ⟨#[]⟩), .x (.string ⟨#[]⟩), .x (.int .i64 0), .x (.int .i64 0), .x (.string ⟨#[]⟩), .x (.int .i64 0), .x (.int .i64 0), .sl true 0 [] none])] (by kernel_rfl) (by kernel_rfl) h1 (by simp (decide := true) (maxDischargeDepth := 200) only [go_sem, FClone, hop, hnm, hvs, hcs, hts] <;> (repeat' first | rfl | constructor)) ?_)
  clear h1 a w1
  intro a w1 h1
  refine wpIn_seq (wpIn_region ?_)
  refine hold_S hE 0 2 [(1, .ptr 1 0), (2, .ptr 2 0), (29, .ptr 1 12), (30, .sl nl sz (ll.map nodeV) none)] [(1, [.x (.int .i64 k), .x (.string op), .x (.string nm), .x (.int .i64 vk), .x (.int .i64 vn), .x (.string vs), .x (.string cs), .x (.int .i64 cc), .x (.int .i64 cr), .x (.string ts), .x (.int .i64 tc), .x (.int .i64 tr), .sl nl sz (ll.map nodeV) none]), (2, [.x (.int .i64 0), .x (.string ⟨#[]⟩), .x (.string ⟨#[]⟩), .x (.int .i64 0), .x (.int .i64 0), .x (.string ⟨#[]⟩), .x (.string ⟨#[]⟩), .x (.int .i64 0), .x (.int .i64 0), .x (.string ⟨#[]⟩), .x (.int .i64 0), .x (.int .i64 0), .sl true 0 [] none])] [2, 3, 4] (by decide) (by kernel_rfl) (by kernel_rfl) h1 (by simp (decide := true) (maxDischargeDepth := 200) only [go_sem] <;> (repeat' first | rfl | constructor)) ?_
  clear h1 a w1
  intro a w1 h1
  obtain ⟨m1, O, gs, q1, q2, q3, q4, q5, q6, q7⟩ := h1
  cases q2
  have hy : Rd m1 w1 (a.eval (.tmp 30)) (.sl nl sz (ll.map nodeV) none) := runOf_read0 q1 30 (by simp only [go_sem, Nat.reduceEqDiff, if_false, if_true, tOf, stOf]) rfl
  obtain ⟨i, hi, hisz⟩ := info_of sz28
  have hib : i.bytes = 160 := by have := by28; simpa [byB, hi] using this
  obtain ⟨zv, hzv, hzs⟩ := zero_of hi ze28
  obtain ⟨kv, m2, w2, gs2, hrun, hs2, hbed, hnew⟩ := append_own (P := Try.prog) (K := globK) (t := 26) (ty := 26) (by kernel_rfl) hi hisz hzv hzs (hE.high _ q1.J) hy (by by_cases h : ll = []; exact .inr (by rw [h]; rfl); exact .inl (hs h)) (nodes_13 ll) (by simp; omega) (by simp [hib]; omega)
  obtain ⟨ao, ln, cp, rfl⟩ : ∃ ao ln cp, kv = .slice ao ln cp := hbed.slice
  have hJ2 := hE.keep [] _ _ (fun x hx => by cases hx) q1.J (hs2.bel (fun k _ h => h.elim))
  refine hold_raw (i := 2) (rest := [3, 4]) rfl (by intro c e; cases e) rfl rfl (v := .slice ao ln cp) (w' := w2) (by
    simp only [execOp, resolve, Sem.run_bind, Sem.run_pure, Result.andThen_ok, invoke, builtin]
    rw [show Array.map a.eval #[Operand.const (Value.slice none 0 0), Operand.tmp 30] = #[Value.slice none 0 0, a.eval (.tmp 30)] from by simp [Act.eval]]
    exact congrArg (fun q : Result Value => q.andThen fun a w' => Result.ok (Next.value a) w') hrun) ?_
  have hst : Hold (envOf [(32, FClone)]) 34 13 ⟨Kno.top, fun _ => true, #[], m, w⟩ [(.slice ao ln cp, ll.map nodeV)] (stOf [(1, .ptr 1 0), (2, .ptr 2 0), (31, .x (.slice ao ln cp))] [(1, [.x (.int .i64 k), .x (.string op), .x (.string nm), .x (.int .i64 vk), .x (.int .i64 vn), .x (.string vs), .x (.string cs), .x (.int .i64 cc), .x (.int .i64 cr), .x (.string ts), .x (.int .i64 tc), .x (.int .i64 tr), .sl nl sz (ll.map nodeV) none]), (2, [.x (.int .i64 0), .x (.string ⟨#[]⟩), .x (.string ⟨#[]⟩), .x (.int .i64 0), .x (.int .i64 0), .x (.string ⟨#[]⟩), .x (.string ⟨#[]⟩), .x (.int .i64 0), .x (.int .i64 0), .x (.string ⟨#[]⟩), .x (.int .i64 0), .x (.int .i64 0), .sl true 0 [] none])]) (a.put (some 31) (.slice ao ln cp)) w2 := by
    have hp := (q1.other hs2 (fun _ _ h => h) hJ2).put (d := 31) (by decide) (v := .slice ao ln cp) (u := .x (.slice ao ln cp)) (.x _)
    refine ⟨m2, O, gs2, hp.le (le_stOf (by simp (decide := true) (maxDischargeDepth := 200) only [go_sem] <;> (repeat' first | rfl | constructor)) (by simp (decide := true) (maxDischargeDepth := 200) only [go_sem] <;> (repeat' first | rfl | constructor))), hbed, fun g hg => ⟨fun ho => absurd (q1.lt g ho) (Nat.not_lt.2 (hnew g hg)), Nat.le_trans q5.ext.size (hnew g hg)⟩, q4, q5.next hs2 (fun _ _ h => h), trivial, fun i hi => by cases hi⟩
  clear q1 q3 q4 q5 q6 q7 hy hrun hs2 hbed hnew hJ2
  refine hold_S hE 3 2 [(1, .ptr 1 0), (2, .ptr 2 0)] [(1, [.x (.int .i64 k), .x (.string op), .x (.string nm), .x (.int .i64 vk), .x (.int .i64 vn), .x (.string vs), .x (.string cs), .x (.int .i64 cc), .x (.int .i64 cr), .x (.string ts), .x (.int .i64 tc), .x (.int .i64 tr), .x (.slice ao ln cp)]), (2, [.x (.int .i64 0), .x (.string ⟨#[]⟩), .x (.string ⟨#[]⟩), .x (.int .i64 0), .x (.int .i64 0), .x (.string ⟨#[]⟩), .x (.string ⟨#[]⟩), .x (.int .i64 0), .x (.int .i64 0), .x (.string ⟨#[]⟩), .x (.int .i64 0), .x (.int .i64 0), .sl true 0 [] none])] [] (by decide) (by kernel_rfl) (by kernel_rfl) hst (by simp (decide := true) (maxDischargeDepth := 200) only [go_sem] <;> (repeat' first | rfl | constructor)) ?_
  intro a w3 h3
  refine wpIn_seq (hold_T hE hm [(1, .ptr 1 0), (2, .ptr 2 0)] [(1, [.x (.int .i64 k), .x (.string op), .x (.string nm), .x (.int .i64 vk), .x (.int .i64 vn), .x (.string vs), .x (.string cs), .x (.int .i64 cc), .x (.int .i64 cr), .x (.string ts), .x (.int .i64 tc), .x (.int .i64 tr), .x (.slice ao ln cp)]), (2, [.x (.int .i64 k), .x (.string op), .x (.string nm), .x (.int .i64 vk), .x (.int .i64 vn), .x (.string vs), .x (.string cs), .x (.int .i64 cc), .x (.int .i64 cr), .x (.string ts), .x (.int .i64 tc), .x (.int .i64 tr), .x (.slice ao ln cp)])] (by kernel_rfl) (by kernel_rfl) h3 (by simp (decide := true) (maxDischargeDepth := 200) only [go_sem] <;> (repeat' first | rfl | constructor)) ?_)
  intro a w4 h4
  refine wpIn_ret ⟨.inr rfl, _, _, _, _, h4, rfl, rfl, (by simp (decide := true) (maxDischargeDepth := 200) only [go_sem, Try.results25]; rfl), ?_⟩
  intro v' m' gs' p1 p2 p3 p4 p5 p6
  exact ⟨m', .slice ao ln cp, gs', p4, p6, p1, p2, p3⟩
end Go.Proofs.Ytacclfepjpmfoaa

/- A tree that is turned level by level, in place: what is made of a node; what is known of rows that are still to be turned. Nothing of the program but nodes. -/
namespace Go.Proofs.Ytacclfepjpmfoaa
open Go Go.RowKit

/-- What becomes of a node's own fields, and whether it keeps its kids. -/
structure Turn where
  th : Hd → Hd
  keep : Hd → Bool
def nodeOf (h : Hd) : List Nd → Nd
  | [] => .leaf h
  | n :: l => .mk h (n :: l)
theorem nodeOf_hd (h : Hd) (l : List Nd) : (nodeOf h l).hd = h := by cases l <;> rfl
theorem nodeOf_ks (h : Hd) (l : List Nd) : (nodeOf h l).ks = l := by cases l <;> rfl
/-- A row as it is made anew: nil where there is nothing. -/
def rowN : List Nd → V
  | [] => .sl true 0 [] none
  | n :: l => .sl false 13 ((n :: l).map nodeV) none
theorem nodeOf_V (h : Hd) (l : List Nd) : nodeV (nodeOf h l) = .agg (cellsH h (rowN l)) := by
  rw [nodeV_eq, nodeOf_hd]
  cases l <;> rfl
namespace Turn
variable (T : Turn)
/-- The node alone. -/
def one : Nd → Nd
  | .leaf h => .leaf (T.th h)
  | .mk h l => if T.keep h = true then .mk (T.th h) l else .leaf (T.th h)
mutual
/-- The node, and all that it has. -/
def all : Nd → Nd
  | .leaf h => .leaf (T.th h)
  | .mk h l => if T.keep h = true then nodeOf (T.th h) (allL l) else .leaf (T.th h)
def allL : List Nd → List Nd
  | [] => []
  | n :: l => all n :: allL l
end
theorem allL_map : ∀ l, T.allL l = l.map T.all
  | [] => by rw [allL]; rfl
  | n :: l => by rw [allL, allL_map l]; rfl
theorem one_hd (n : Nd) : (T.one n).hd = T.th n.hd := by
  cases n with
  | leaf h => rfl
  | mk h l =>
    rw [one]
    split <;> rfl
theorem one_ks (n : Nd) : (T.one n).ks = if T.keep n.hd = true then n.ks else [] := by
  cases n with
  | leaf h => rw [one]; split <;> rfl
  | mk h l => rw [one]; split <;> simp [Nd.ks, Nd.hd, *]
theorem all_eq (n : Nd) : T.all n = nodeOf (T.one n).hd ((T.one n).ks.map T.all) := by
  cases n with
  | leaf h => rw [all, one]; rfl
  | mk h l =>
    rw [all, one, allL_map]
    split <;> rfl
theorem all_V (n : Nd) : nodeV (T.all n) = .agg (cellsH (T.one n).hd (rowN ((T.one n).ks.map T.all))) := by rw [all_eq, nodeOf_V]
theorem one_cnt (n : Nd) : cntL (T.one n).ks + 1 ≤ cnt n := by
  rw [cnt_eq, one_ks]
  split
  · omega
  · simp [cntL]
end Turn

mutual
/-- Texts that may be copied, throughout. -/
def good : Nd → Prop
  | .leaf h => TextsOK h
  | .mk h l => TextsOK h ∧ goodL l
def goodL : List Nd → Prop
  | [] => True
  | n :: l => good n ∧ goodL l
end
theorem good_iff (n : Nd) : good n ↔ TextsOK n.hd ∧ goodL n.ks := by cases n <;> simp [good, goodL, Nd.hd, Nd.ks]
theorem goodL_iff {l : List Nd} : goodL l ↔ ∀ n ∈ l, good n := by
  induction l with
  | nil => simp [goodL]
  | cons n l ih => simp [goodL, ih]
theorem good_one (T : Turn) (hT : ∀ h, TextsOK h → TextsOK (T.th h)) {n : Nd} (h : good n) : TextsOK (T.one n).hd ∧ goodL (T.one n).ks := by
  obtain ⟨h1, h2⟩ := (good_iff n).1 h
  rw [T.one_hd, T.one_ks]
  refine ⟨hT _ h1, ?_⟩
  split
  · exact h2
  · trivial

/-- Rows that are still to be turned, what they hold; and how much that is. -/
abbrev Pend := List (Value × List Nd)
def Pend.bed (P : Pend) : List (Value × List V) := P.map fun p => (p.1, p.2.map nodeV)
def Pend.m : Pend → Nat
  | [] => 0
  | p :: P => 1 + 2 * cntL p.2 + Pend.m P
def Pend.good (P : Pend) : Prop := ∀ p ∈ P, goodL p.2
theorem Pend.m_len : ∀ P : Pend, P.length ≤ P.m
  | [] => Nat.le_refl _
  | p :: P => by have := Pend.m_len P; simp only [List.length_cons, Pend.m]; omega
theorem Pend.m_append : ∀ P Q : Pend, Pend.m (P ++ Q) = P.m + Q.m
  | [], Q => by simp [Pend.m]
  | p :: P, Q => by rw [List.cons_append, Pend.m, Pend.m, Pend.m_append P Q]; omega
theorem Pend.m_reverse (P : Pend) : Pend.m P.reverse = P.m := by
  induction P with
  | nil => rfl
  | cons p P ih => rw [List.reverse_cons, Pend.m_append, ih]; simp only [Pend.m]; omega
/-- Once these rows hold what is to become of them, G holds. -/
def Fut (T : Turn) (P : Pend) (G : Lim → World → Prop) : Kno :=
  ⟨fun m w => ∀ m' w', Ext m w m' w' → (∀ p ∈ P, Rd m' w' p.1 (rowN (p.2.map T.all))) → G m' w', fun _ _ _ _ h he m2 w2 he2 => h m2 w2 (he.trans he2)⟩
/-- The cells of nodes that were turned, with the row that holds their kids. -/
def doneC (T : Turn) (done : List (Nd × Value)) : List V := done.flatMap fun p => cellsH (T.one p.1).hd (.x p.2)
def todoC (todo : List Nd) : List V := todo.flatMap fun n => (nodeV n).cells
/-- The rows of their kids, the last one first. -/
def kidsP (T : Turn) (done : List (Nd × Value)) : Pend := (done.map fun p => (p.2, (T.one p.1).ks)).reverse
theorem doneC_len (T : Turn) (done : List (Nd × Value)) : (doneC T done).length = done.length * 13 := by
  induction done with
  | nil => rfl
  | cons p l ih =>
    have e : doneC T (p :: l) = cellsH (T.one p.1).hd (.x p.2) ++ doneC T l := rfl
    rw [e, List.length_append, ih, List.length_cons, Nat.add_mul]
    show 13 + _ = _
    omega
theorem doneC_at (T : Turn) : ∀ (done : List (Nd × Value)) (i j : Nat) (p : Nd × Value), done[i]? = some p → j < 13 → (doneC T done)[i * 13 + j]? = (cellsH (T.one p.1).hd (.x p.2))[j]?
  | [], i, j, p, h, _ => by simp at h
  | q :: l, 0, j, p, h, hj => by
    simp at h
    subst h
    have e : doneC T (q :: l) = cellsH (T.one q.1).hd (.x q.2) ++ doneC T l := rfl
    rw [e, Nat.zero_mul, Nat.zero_add, List.getElem?_append_left (by show j < 13; exact hj)]
  | q :: l, i + 1, j, p, h, hj => by
    have e : doneC T (q :: l) = cellsH (T.one q.1).hd (.x q.2) ++ doneC T l := rfl
    have e13 : (cellsH (T.one q.1).hd (.x q.2)).length = 13 := rfl
    rw [e, List.getElem?_append_right (by rw [e13]; omega), e13, show (i + 1) * 13 + j - 13 = i * 13 + j from by omega]
    exact doneC_at T l i j p (by simpa using h) hj
theorem doneC_snoc (T : Turn) (done : List (Nd × Value)) (n : Nd) (kv : Value) : doneC T (done ++ [(n, kv)]) = doneC T done ++ cellsH (T.one n).hd (.x kv) := by simp [doneC]
/-- A level that was turned: it holds what is to become of it, once the rows of its kids do. -/
theorem fut_next {T : Turn} {m : Lim} {w : World} {v : Value} {g cap : Nat} {done : List (Nd × Value)} {P : Pend} {G : Lim → World → Prop} (h : (Fut T ((v, done.map (·.1)) :: P) G).P m w) (hne : done ≠ []) (hb : BoxAt m w g (doneC T done)) (hv : v = .slice (some ⟨g, 0, none⟩) done.length cap) (hcap : done.length ≤ cap) :
    (Fut T (kidsP T done ++ P) G).P (upd m g none) w := by
  intro m' w' he hrows
  obtain ⟨_, vals, ty, xs, rest, hh, hx, hr⟩ := hb
  refine h m' w' ((Step.freeze g m w).ext.trans he) fun p hp => ?_
  rcases List.mem_cons.1 hp with rfl | hp
  · have hl : xs.length = done.length * 13 := by rw [hr.length, doneC_len]
    have hcell : ∀ k, k < done.length * 13 → w'.cell? ⟨g, 0 + k, none⟩ = some ((xs[k]?).getD Go.undef) := fun k hk => by
      refine he.cell g (0 + k) _ (heap_lt hh) (fun fr hf => by rw [upd_same] at hf; cases hf) ?_
      rw [Box.cell hh, Nat.zero_add, ← Array.getElem?_toList, hx, List.getElem?_append_left (by omega), List.getElem?_eq_getElem (by omega)]
      rfl
    have hnl : rowN ((done.map (·.1)).map T.all) = .sl false 13 (((done.map (·.1)).map T.all).map nodeV) none := by
      cases done with
      | nil => exact absurd rfl hne
      | cons q l => rfl
    have hlen : (((done.map (·.1)).map T.all).map nodeV).length = done.length := by simp
    show Rd m' w' v _
    rw [hnl, hv, ← hlen]
    refine .sl g 0 cap 13 _ none (fun k => (xs[k]?).getD Go.undef) (Nat.lt_of_lt_of_le (heap_lt hh) he.size) (by rw [hlen]; exact hcap) (fun i e hi => ?_) (fun k hk => hcell k (by rw [hlen] at hk; exact hk)) (fun fr hf => ?_) (fun i e hi j d hd => ?_)
    · obtain ⟨n, _, rfl⟩ := List.mem_map.1 (List.mem_of_getElem? hi)
      exact cells_len n
    · obtain ⟨fr', h', _⟩ := he.lim g (heap_lt hh) fr hf
      rw [upd_same] at h'
      cases h'
    · rw [List.getElem?_map, List.getElem?_map, List.getElem?_map] at hi
      cases hp' : done[i]? with
      | none => rw [hp'] at hi; cases hi
      | some p =>
        rw [hp'] at hi
        simp only [Option.map_some, Option.some.injEq] at hi
        subst hi
        rw [T.all_V] at hd
        have hj : j < 13 := by have := lt_of_some hd; exact this
        have hx' : ∀ u : V, (cellsH (T.one p.1).hd (.x p.2))[j]? = some u → Rd m w ((xs[i * 13 + j]?).getD Go.undef) u := fun u hu => by
          have h1 := doneC_at T done i j p hp' hj
          rw [hu] at h1
          have hlt : i * 13 + j < xs.length := by rw [hr.length]; exact lt_of_some h1
          have := hr.get (i * 13 + j) _ u (List.getElem?_eq_getElem hlt) h1
          rw [List.getElem?_eq_getElem hlt]
          exact this
        show Rd m' w' ((xs[i * 13 + j]?).getD Go.undef) d
        have hd' : (cellsH (T.one p.1).hd (rowN ((T.one p.1).ks.map T.all)))[j]? = some d := hd
        by_cases h12 : j = 12
        · subst h12
          have h2 := hx' (.x p.2) rfl
          have e2 : d = rowN ((T.one p.1).ks.map T.all) := by simpa [cellsH] using hd'.symm
          rw [Rd.x_iff.1 h2, e2]
          exact hrows (p.2, (T.one p.1).ks) (List.mem_append_left _ (by
            unfold kidsP
            rw [List.mem_reverse]
            exact List.mem_map.2 ⟨p, List.mem_of_getElem? hp', rfl⟩))
        · have h3 : (cellsH (T.one p.1).hd (.x p.2))[j]? = some d := by
            have hj' : j < 12 := by omega
            have key : ∀ K : V, (cellsH (T.one p.1).hd K)[j]? = ((cellsH (T.one p.1).hd .undef).take 12)[j]? := fun K => by
              have e : cellsH (T.one p.1).hd K = (cellsH (T.one p.1).hd .undef).take 12 ++ [K] := rfl
              rw [e, List.getElem?_append_left (by show j < 12; exact hj')]
            rw [key] at hd' ⊢
            exact hd'
          have h4 := hx' d h3
          have : ∃ x, d = .x x := by
            have hj' : j < 12 := by omega
            simp only [cellsH] at h3
            rcases (show j = 0 ∨ j = 1 ∨ j = 2 ∨ j = 3 ∨ j = 4 ∨ j = 5 ∨ j = 6 ∨ j = 7 ∨ j = 8 ∨ j = 9 ∨ j = 10 ∨ j = 11 by omega) with h | h | h | h | h | h | h | h | h | h | h | h <;> subst h <;> exact ⟨_, (by simpa using h3.symm)⟩
          obtain ⟨x, rfl⟩ := this
          rw [Rd.x_iff.1 h4]
          exact .x _
  · exact hrows p (List.mem_append_right _ hp)
theorem flat_x (l : List Value) : (l.map V.x).flatMap V.cells = l.map V.x := by
  induction l with
  | nil => rfl
  | cons v l ih => rw [List.map_cons, List.flatMap_cons, ih]; rfl
/-- The rows' values, the last one ahead. -/
def opC (P : Pend) : List V := (P.map fun p => V.x p.1).reverse
theorem opC_len (P : Pend) : (opC P).length = P.length := by simp [opC]
theorem opC_cons (v : Value) (ks : List Nd) (P : Pend) (G : List V) : opC ((v, ks) :: P) ++ G = opC P ++ .x v :: G := by simp [opC]
theorem opC_kids (T : Turn) (done : List (Nd × Value)) (P : Pend) : opC (kidsP T done ++ P) = opC P ++ done.map fun p => V.x p.2 := by
  simp [opC, kidsP, List.map_reverse]
theorem todoC_eq (l : List Nd) : (l.map nodeV).flatMap V.cells = todoC l := by simp [todoC, List.flatMap_map]
theorem fut_nil {T : Turn} {P : Pend} {G : Lim → World → Prop} {m : Lim} {w : World} (h : (Fut T ((.slice none 0 0, []) :: P) G).P m w) : (Fut T P G).P m w := fun m' w' he hr => h m' w' he fun p hp => by
  rcases List.mem_cons.1 hp with rfl | hp
  · exact .nil _ _
  · exact hr p hp
theorem kidsP_snoc (T : Turn) (done : List (Nd × Value)) (n : Nd) (kv : Value) : kidsP T (done ++ [(n, kv)]) = (kv, (T.one n).ks) :: kidsP T done := by simp [kidsP]
theorem kidsP_len (T : Turn) (done : List (Nd × Value)) : (kidsP T done).length = done.length := by simp [kidsP]
theorem kidsP_m (T : Turn) (done : List (Nd × Value)) : Pend.m (kidsP T done) ≤ 2 * cntL (done.map (·.1)) := by
  unfold kidsP
  rw [Pend.m_reverse]
  induction done with
  | nil => simp [Pend.m]
  | cons p l ih =>
    simp only [List.map_cons, Pend.m, cntL]
    have := T.one_cnt p.1
    omega
theorem kidsP_good (T : Turn) (hT : ∀ h, TextsOK h → TextsOK (T.th h)) {done : List (Nd × Value)} (h : goodL (done.map (·.1))) : Pend.good (kidsP T done) := by
  intro p hp
  unfold kidsP at hp
  rw [List.mem_reverse] at hp
  obtain ⟨q, hq, rfl⟩ := List.mem_map.1 hp
  exact (good_one T hT (goodL_iff.1 h q.1 (List.mem_map.2 ⟨q, hq, rfl⟩))).2
/-- One more row beside. -/
theorem Bed.cons1 {K sz : Nat} {m : Lim} {w : World} {v : Value} {es : List V} {P : List (Value × List V)} {gs gs2 : List Nat} (h1 : Bed K sz m w [(v, es)] gs2) (h2 : Bed K sz m w P gs) (hd : ∀ g ∈ gs2, g ∉ gs) : Bed K sz m w ((v, es) :: P) (gs2 ++ gs) := by
  cases h1 with
  | no h => cases h; exact .no h2
  | row hne hl hn h =>
    cases h
    exact .row hne hl (hd _ (List.mem_cons_self ..)) h2
section
variable {E : Env} {n sz : Nat} {m m' : Lim} {w w' : World} {st : St} {a : Act} {B : Hb} {P : List (Value × List V)}
theorem Now.val {D : List Deferred} {O : Nat → Prop} (h : Now E n D O m st a w) (i : Nat) {v : Value} (hi : st.t i = .x v) : a.tmps.getD i Go.undef = v := by
  obtain ⟨b, β, hr⟩ := h.rel
  exact (hi ▸ hr.tmps i : Rs m w β _ (.x v)).x
/-- What a call made: memory, a value, and maybe a row beside. -/
theorem Hold.after {O : Nat → Prop} {gs gs2 : List Nat} {Q : List (Value × List V)} (h1 : Now E n [] O m st a w) (_h2 : Bed E.K sz m w P gs) (h3 : ∀ g ∈ gs, ¬ O g ∧ B.ws.heap.size ≤ g) (h4 : ∀ k, O k → B.ws.heap.size ≤ k) (h5 : Step (fun _ => False) B.ms B.ws m w) (h6 : B.Kn.P m w) (h7 : KeepT B.W B.t0 a.tmps)
    (hs : Step (fun _ => False) m w m' w') (hJ : E.J w') {d : Tmp} (hd : d < n) (hW : B.W d = true) {v : Value} {u : V} (hv : Rd m' w' v u) (hq : Bed E.K sz m' w' (Q ++ P) (gs2 ++ gs)) (hnew : ∀ g ∈ gs2, w.heap.size ≤ g) : Hold E n sz B (Q ++ P) (st.put (some d) u.bare) (a.put (some d) v) w' := by
  have hp := (h1.other hs (fun _ _ h => h) hJ).put hd hv
  refine ⟨m', O, gs2 ++ gs, hp, hq, fun g hg => ?_, h4, h5.next hs (fun _ _ h => h), B.Kn.mono _ _ _ _ h6 hs.ext, h7.put (fun k e => by cases e; exact hW)⟩
  rcases List.mem_append.1 hg with hg | hg
  · exact ⟨fun ho => absurd (h1.lt g ho) (Nat.not_lt.2 (hnew g hg)), Nat.le_trans h5.ext.size (hnew g hg)⟩
  · exact h3 g hg
/-- A row goes by another name. -/
theorem Hold.rename (hMB : ∀ s, E.MB s = false) (h : Hold E n sz B P st a w) {d s s' z len : Nat} {es : List V} {G : List V} (hd : st.t d = .row s z len) (hb : st.b s = some (es.flatMap V.cells ++ G)) (hlen : ∀ e ∈ es, e.cells.length = z) (hel : es.length = len) {st' : St} (hl : Le st' st) (hbn : st'.b s = none) (hno : noPtrTo s' st'.t) (hs' : s' < n) :
    Hold E n sz B P ⟨upd st'.t d (.row s' z len), upd st'.b s' (some (es.flatMap V.cells))⟩ a w := by
  obtain ⟨m, O, gs, h1, h2, h3, h4, h5, h6, h7⟩ := h
  obtain ⟨g, q1, q2, q3, _, q5, q6⟩ := h1.shed hMB hb hl hbn
  obtain ⟨_, cap, cur, ty, r1, r2, r3, r4⟩ := q5 d z len hd
  have hbox : BoxAt m w g (es.flatMap V.cells) := by
    obtain ⟨hlim, vals, ty', xs, rest, hh, hx, hr⟩ := q3
    have hle : (es.flatMap V.cells).length ≤ xs.length := by rw [hr.length, List.length_append]; omega
    refine ⟨hlim, vals, ty', xs.take (es.flatMap V.cells).length, xs.drop (es.flatMap V.cells).length ++ rest, hh, by rw [hx, ← List.append_assoc, List.take_append_drop], RdL.of_get (by rw [List.length_take]; omega) (fun i v u hv hu => ?_)⟩
    have hi := lt_of_some hu
    rw [List.getElem?_take, if_pos hi] at hv
    exact hr.get i v u hv (by rw [List.getElem?_append_left hi]; exact hu)
  subst hel
  have hL : Loose E.K z m w (a.tmps.getD d Go.undef) es g := ⟨hbox, q2, cap, cur, ty, r1, r2, r3, r4⟩
  have := q6.take hMB hL hlen (fun h => h.2 rfl) (d := d) (s := s') rfl hno hs'
  refine ⟨m, _, gs, this, h2, fun g' hg' => ⟨fun ho => ?_, (h3 g' hg').2⟩, fun k hk => ?_, h5, h6, h7⟩
  · rcases ho with ho | rfl
    · exact (h3 g' hg').1 ho.1
    · exact (h3 g' hg').1 q1
  · rcases hk with hk | rfl
    · exact h4 k hk.1
    · exact h4 _ q1
end
end Go.Proofs.Ytacclfepjpmfoaa

/- rewrite.turned: a tree is turned level by level, in place. -/
namespace Go.Proofs.Ytacclfepjpmfoaa
open Go Go.RowKit
set_option linter.unusedSimpArgs false

set_option maxHeartbeats 16000000 in
set_option maxRecDepth 100000 in
theorem turned_calls (T : Turn) (hT : ∀ h, TextsOK h → TextsOK (T.th h)) {cf : FuncId} {lb : Array Value} (hcf : ∀ args w, (callFunc cf args).run Try.prog w = .ok (.enter cf args) w) {m : Lim} {w : World} {v : Value} {nd : Nd} (hr : Rd m w v (nodeV nd)) (hgood : good nd) (hcnt : cnt nd ≤ 400) (hj : Glob w)
    (hturn : ∀ m' w', Step (fun _ => False) m w m' w' → Glob w' → ∀ v' n', Rd m' w' v' (nodeV n') → good n' → Calls Try.prog cf (#[v'] ++ lb) w' fun e w2 => ∃ v2, e = .returned v2 ∧ ∃ m2, Step (fun _ => False) m' w' m2 w2 ∧ Glob w2 ∧ Rd m2 w2 v2 (nodeV (T.one n'))) :
    Calls Try.prog 16 #[v, .func (.func cf) #[] lb] w fun e w' => ∃ v', e = .returned v' ∧ ∃ m', Step (fun _ => False) m w m' w' ∧ Glob w' ∧ Rd m' w' v' (nodeV (T.all nd)) := by
  have hE : EnvOK (envM [] (fun d => d == 12 || d == 14)) := envOK_M _ _ trivial
  have hm : (envM [] (fun d => d == 12 || d == 14)).P.follows .mixedOrders = true := by kernel_rfl
  have hMB : ∀ s, (envM [] (fun d => d == 12 || d == 14)).MB s = false := fun _ => rfl
  obtain ⟨k, op, nm, vk, vn, vs, cs, cc, cr, ts, tc, tr, ll, nl, sz, hh, hl, hf, hs⟩ := node_cases nd
  have hc : (nodeV nd).cells = [.x (.int .i64 k), .x (.string op), .x (.string nm), .x (.int .i64 vk), .x (.int .i64 vn), .x (.string vs), .x (.string cs), .x (.int .i64 cc), .x (.int .i64 cr), .x (.string ts), .x (.int .i64 tc), .x (.int .i64 tr), .sl nl sz (ll.map nodeV) none] := by rw [hf]; rfl
  rw [hf] at hr
  refine calls_of_hold (E := (envM [] (fun d => d == 12 || d == 14))) (n := 54) (sz := 13) (us := [.agg [.x (.int .i64 k), .x (.string op), .x (.string nm), .x (.int .i64 vk), .x (.int .i64 vn), .x (.string vs), .x (.string cs), .x (.int .i64 cc), .x (.int .i64 cr), .x (.string ts), .x (.int .i64 tc), .x (.int .i64 tr), .sl nl sz (ll.map nodeV) none], .x (.func (.func cf) #[] lb)]) (k := 2) (Kn := Kno.top) Try.func16 rfl Try.ntmps16 (by decide) (by decide) ⟨hr, .x _, trivial⟩ (by rfl) rfl hj (fun _ => .undef _) trivial ?_
  intro a h0
  refine wpIn_seq (hold_T hE hm [(1, .x (.func (.func cf) #[] lb)), (2, .ptr 2 0), (4, .ptr 4 0)] [(2, [.x (.int .i64 k), .x (.string op), .x (.string nm), .x (.int .i64 vk), .x (.int .i64 vn), .x (.string vs), .x (.string cs), .x (.int .i64 cc), .x (.int .i64 cr), .x (.string ts), .x (.int .i64 tc), .x (.int .i64 tr), .sl nl sz (ll.map nodeV) none]), (4, [.x (.int .i64 0), .x (.string ⟨#[]⟩), .x (.string ⟨#[]⟩), .x (.int .i64 0), .x (.int .i64 0), .x (.string ⟨#[]⟩), .x (.string ⟨#[]⟩), .x (.int .i64 0), .x (.int .i64 0), .x (.string ⟨#[]⟩), .x (.int .i64 0), .x (.int .i64 0), .sl true 0 [] none])] (by kernel_rfl) (by kernel_rfl) h0 (by simp (decide := true) (maxDischargeDepth := 200) only [go_sem, Nat.reduceBEq] <;> (repeat' first | rfl | constructor)) ?_)
  clear h0 a
  intro a w1 h1
  refine wpIn_seq (hold_T hE hm [(1, .x (.func (.func cf) #[] lb)), (4, .ptr 4 0), (5, .row 12 13 1)] [(12, [.x (.int .i64 k), .x (.string op), .x (.string nm), .x (.int .i64 vk), .x (.int .i64 vn), .x (.string vs), .x (.string cs), .x (.int .i64 cc), .x (.int .i64 cr), .x (.string ts), .x (.int .i64 tc), .x (.int .i64 tr), .sl nl sz (ll.map nodeV) none]), (4, [.x (.int .i64 0), .x (.string ⟨#[]⟩), .x (.string ⟨#[]⟩), .x (.int .i64 0), .x (.int .i64 0), .x (.string ⟨#[]⟩), .x (.string ⟨#[]⟩), .x (.int .i64 0), .x (.int .i64 0), .x (.string ⟨#[]⟩), .x (.int .i64 0), .x (.int .i64 0), .sl true 0 [] none])] (by kernel_rfl) (by kernel_rfl) h1 (by simp (decide := true) (maxDischargeDepth := 200) only [go_sem, Nat.reduceBEq] <;> (repeat' first | rfl | constructor)) ?_)
  clear h1 a w1
  intro a w1 h1
  -- the root: a row beside
  obtain ⟨m1, O, gs, q1, q2, q3, q4, q5, q6, q7⟩ := h1
  cases q2
  obtain ⟨g0, p1, p2, p3, p4, p5, p6⟩ := q1.shed hMB (s := 12) (cs := [.x (.int .i64 k), .x (.string op), .x (.string nm), .x (.int .i64 vk), .x (.int .i64 vn), .x (.string vs), .x (.string cs), .x (.int .i64 cc), .x (.int .i64 cr), .x (.string ts), .x (.int .i64 tc), .x (.int .i64 tr), .sl nl sz (ll.map nodeV) none]) rfl (st' := stOf [(1, .x (.func (.func cf) #[] lb)), (4, .ptr 4 0)] [(4, [.x (.int .i64 0), .x (.string ⟨#[]⟩), .x (.string ⟨#[]⟩), .x (.int .i64 0), .x (.int .i64 0), .x (.string ⟨#[]⟩), .x (.string ⟨#[]⟩), .x (.int .i64 0), .x (.int .i64 0), .x (.string ⟨#[]⟩), .x (.int .i64 0), .x (.int .i64 0), .sl true 0 [] none])]) (le_stOf (by simp (decide := true) (maxDischargeDepth := 200) only [go_sem, Nat.reduceBEq] <;> (repeat' first | rfl | constructor)) (by simp (decide := true) (maxDischargeDepth := 200) only [go_sem, Nat.reduceBEq] <;> (repeat' first | rfl | constructor))) rfl
  obtain ⟨r0, c0, cur, ty, r1, r2, r3, r4⟩ := p5 5 13 1 rfl
  have h1 : Hold (envM [] (fun d => d == 12 || d == 14)) 54 13 ⟨Fut T [(.slice (some ⟨g0, 0, none⟩) 1 c0, [nd])] fun m w => Rd m w (.slice (some ⟨g0, 0, none⟩) 1 c0) (.sl false 13 [nodeV (T.all nd)] none), fun _ => true, #[], m, w⟩ (Pend.bed [(.slice (some ⟨g0, 0, none⟩) 1 c0, [nd])]) (stOf [(1, .x (.func (.func cf) #[] lb)), (4, .ptr 4 0), (5, .x (.slice (some ⟨g0, 0, none⟩) 1 c0))] [(4, [.x (.int .i64 0), .x (.string ⟨#[]⟩), .x (.string ⟨#[]⟩), .x (.int .i64 0), .x (.int .i64 0), .x (.string ⟨#[]⟩), .x (.string ⟨#[]⟩), .x (.int .i64 0), .x (.int .i64 0), .x (.string ⟨#[]⟩), .x (.int .i64 0), .x (.int .i64 0), .sl true 0 [] none])]) a w1 := by
    have hl := p6.learn (d := 5) (by decide) (u := .x (.slice (some ⟨g0, 0, none⟩) 1 c0)) (by rw [r1]; exact .x _)
    refine ⟨m1, _, [g0], hl.le (le_stOf (by simp (decide := true) (maxDischargeDepth := 200) only [go_sem, Nat.reduceBEq] <;> (repeat' first | rfl | constructor)) (by simp (decide := true) (maxDischargeDepth := 200) only [go_sem, Nat.reduceBEq] <;> (repeat' first | rfl | constructor))), .row (by simp) ⟨by simpa [hc] using p3, p2, c0, cur, ty, rfl, r2, r3, r4⟩ (by simp) .nil, fun g hg => ?_, fun k hk => q4 k hk.1, q5, fun m' w' _ h => h _ (List.mem_cons_self ..), fun i hi => by cases hi⟩
    rw [List.mem_singleton.1 hg]
    exact ⟨fun h => h.2 rfl, q4 g0 p1⟩
  clear q1 q3 q4 q5 q6 q7 p1 p2 p3 p4 p5 p6 r0 r1 r2 r3 r4 hl hf hs hh
  refine wpIn_seq (hold_T hE hm [(1, .x (.func (.func cf) #[] lb)), (4, .ptr 4 0), (5, .x (.slice (some ⟨g0, 0, none⟩) 1 c0)), (6, .row 14 1 1)] [(4, [.x (.int .i64 0), .x (.string ⟨#[]⟩), .x (.string ⟨#[]⟩), .x (.int .i64 0), .x (.int .i64 0), .x (.string ⟨#[]⟩), .x (.string ⟨#[]⟩), .x (.int .i64 0), .x (.int .i64 0), .x (.string ⟨#[]⟩), .x (.int .i64 0), .x (.int .i64 0), .sl true 0 [] none]), (14, [.x (.slice (some ⟨g0, 0, none⟩) 1 c0)])] (by kernel_rfl) (by kernel_rfl) h1 (by simp (decide := true) (maxDischargeDepth := 200) only [go_sem, Nat.reduceBEq] <;> (repeat' first | rfl | constructor)) ?_)
  clear h1 a w1
  intro a w1 h1
  refine wpIn_seq (wpIn_mono (Q := fun e a' w' => e = .normal ∧ Hold (envM [] (fun d => d == 12 || d == 14)) 54 13 ⟨Fut T [] (fun m w => Rd m w (.slice (some ⟨g0, 0, none⟩) 1 c0) (.sl false 13 [nodeV (T.all nd)] none)), fun _ => true, #[], m, w⟩ ([]) (stOf [(4, .ptr 4 0), (5, .x (.slice (some ⟨g0, 0, none⟩) 1 c0))] [(4, [.x (.int .i64 0), .x (.string ⟨#[]⟩), .x (.string ⟨#[]⟩), .x (.int .i64 0), .x (.int .i64 0), .x (.string ⟨#[]⟩), .x (.string ⟨#[]⟩), .x (.int .i64 0), .x (.int .i64 0), .x (.string ⟨#[]⟩), .x (.int .i64 0), .x (.int .i64 0), .sl true 0 [] none])]) a' w') ?_ ?_)
  rotate_left
  · rintro e a' w' ⟨rfl, h2⟩
    obtain ⟨m1, O, gs, q1, q2, q3, q4, q5, q6, q7⟩ := h2
    have hrd := q6 m1 w' (Ext.refl _ _) (fun p hp => by cases hp)
    obtain ⟨k, op, nm, vk, vn, vs, cs, cc, cr, ts, tc, tr, ll, nl, sz, hh, hl, hf, hs⟩ := node_cases (T.all nd)
    rw [hf] at hrd
    have e5 : a'.tmps.getD 5 Go.undef = .slice (some ⟨g0, 0, none⟩) 1 c0 := Rd.x_iff.1 (runOf_read0 q1 5 rfl rfl)
    have h2 : Hold (envM [] (fun d => d == 12 || d == 14)) 54 13 ⟨Kno.top, fun _ => true, #[], m, w⟩ [] (stOf [(4, .ptr 4 0), (5, .sl false 13 [.agg [.x (.int .i64 k), .x (.string op), .x (.string nm), .x (.int .i64 vk), .x (.int .i64 vn), .x (.string vs), .x (.string cs), .x (.int .i64 cc), .x (.int .i64 cr), .x (.string ts), .x (.int .i64 tc), .x (.int .i64 tr), .sl nl sz (ll.map nodeV) none]] none)] [(4, [.x (.int .i64 0), .x (.string ⟨#[]⟩), .x (.string ⟨#[]⟩), .x (.int .i64 0), .x (.int .i64 0), .x (.string ⟨#[]⟩), .x (.string ⟨#[]⟩), .x (.int .i64 0), .x (.int .i64 0), .x (.string ⟨#[]⟩), .x (.int .i64 0), .x (.int .i64 0), .sl true 0 [] none])]) a' w' := by
      have hl := q1.learn (d := 5) (by decide) (u := .sl false 13 [.agg [.x (.int .i64 k), .x (.string op), .x (.string nm), .x (.int .i64 vk), .x (.int .i64 vn), .x (.string vs), .x (.string cs), .x (.int .i64 cc), .x (.int .i64 cr), .x (.string ts), .x (.int .i64 tc), .x (.int .i64 tr), .sl nl sz (ll.map nodeV) none]] none) (by rw [e5]; exact hrd)
      exact ⟨m1, O, gs, hl.le (le_stOf (by simp (decide := true) (maxDischargeDepth := 200) only [go_sem, Nat.reduceBEq] <;> (repeat' first | rfl | constructor)) (by simp (decide := true) (maxDischargeDepth := 200) only [go_sem, Nat.reduceBEq] <;> (repeat' first | rfl | constructor))), q2, q3, q4, q5, trivial, fun i hi => by cases hi⟩
    refine wpIn_seq (hold_T hE hm [(4, .ptr 4 0)] [(4, [.x (.int .i64 k), .x (.string op), .x (.string nm), .x (.int .i64 vk), .x (.int .i64 vn), .x (.string vs), .x (.string cs), .x (.int .i64 cc), .x (.int .i64 cr), .x (.string ts), .x (.int .i64 tc), .x (.int .i64 tr), .sl nl sz (ll.map nodeV) none])] (by kernel_rfl) (by kernel_rfl) h2 (by simp (decide := true) (maxDischargeDepth := 200) only [go_sem, Nat.reduceBEq] <;> (repeat' first | rfl | constructor)) ?_)
    intro a w4 h4
    refine wpIn_ret ⟨.inr rfl, _, _, _, _, h4, rfl, rfl, (by simp (decide := true) (maxDischargeDepth := 200) only [go_sem, Try.results16]; rfl), ?_⟩
    intro v' m' gs' p1 p2 p3 p4 p5 p6
    rw [hf]
    exact ⟨m', p4, p6, p1⟩
  refine wpIn_block (wpIn_loopX (X := Pend × List V) (fun x a' w' => x.1.good ∧ x.1.m ≤ 801 ∧ Hold (envM [] (fun d => d == 12 || d == 14)) 54 13 ⟨Fut T x.1 (fun m w => Rd m w (.slice (some ⟨g0, 0, none⟩) 1 c0) (.sl false 13 [nodeV (T.all nd)] none)), fun _ => true, #[], m, w⟩ (x.1.bed) (stOf [(1, .x (.func (.func cf) #[] lb)), (4, .ptr 4 0), (5, .x (.slice (some ⟨g0, 0, none⟩) 1 c0)), (6, .row 14 1 x.1.length)] [(4, [.x (.int .i64 0), .x (.string ⟨#[]⟩), .x (.string ⟨#[]⟩), .x (.int .i64 0), .x (.int .i64 0), .x (.string ⟨#[]⟩), .x (.string ⟨#[]⟩), .x (.int .i64 0), .x (.int .i64 0), .x (.string ⟨#[]⟩), .x (.int .i64 0), .x (.int .i64 0), .sl true 0 [] none]), (14, opC x.1 ++ x.2)]) a' w') (fun x => x.1.m) ([(.slice (some ⟨g0, 0, none⟩) 1 c0, [nd])], []) ⟨?_, ?_, h1⟩ ?_)
  · intro p hp
    rw [List.mem_singleton.1 hp]
    exact ⟨hgood, trivial⟩
  · simp only [Pend.m, cntL]; omega
  clear h1 a w1
  rintro ⟨P, G⟩ a w1 ⟨hPg, hPm, h1⟩
  simp only at hPg hPm h1
  cases P with
  | nil =>
    refine hold_X hE hm 0 [(4, .ptr 4 0), (5, .x (.slice (some ⟨g0, 0, none⟩) 1 c0))] [(4, [.x (.int .i64 0), .x (.string ⟨#[]⟩), .x (.string ⟨#[]⟩), .x (.int .i64 0), .x (.int .i64 0), .x (.string ⟨#[]⟩), .x (.string ⟨#[]⟩), .x (.int .i64 0), .x (.int .i64 0), .x (.string ⟨#[]⟩), .x (.int .i64 0), .x (.int .i64 0), .sl true 0 [] none])] (by kernel_rfl) (by kernel_rfl) h1 (by simp (decide := true) (maxDischargeDepth := 200) only [go_sem, Nat.reduceBEq, List.length_nil, show decide ((0 : Int) < ((0 : Nat) : Int)) = false from rfl] <;> (repeat' first | rfl | constructor)) ?_
    intro a' w' h2
    exact ⟨rfl, h2⟩
  | cons p P1 =>
    obtain ⟨v, ks⟩ := p
    obtain ⟨A0, hA⟩ : ∃ A0, A0 = opC P1 := ⟨_, rfl⟩
    obtain ⟨q, hq⟩ : ∃ q, q = P1.length := ⟨_, rfl⟩
    have hAl : A0.length = q := by rw [hA, hq, opC_len]
    have hm1 : 1 + 2 * cntL ks + Pend.m P1 ≤ 801 := hPm
    have hq8 : q ≤ 801 := by have := Pend.m_len P1; omega
    rw [opC_cons, List.length_cons, ← hA, ← hq] at h1
    have f1 : decide ((0 : Int) < ((q + 1 : Nat) : Int)) = true := decide_eq_true (by omega)
    have f2 : bWrap .i64 (((q + 1 : Nat) : Int) - 1) = ((q : Nat) : Int) := by rw [bwrap_of (by unfold inR; omega)]; omega
    have f3 : (0 : Int) ≤ ((q : Nat) : Int) := by omega
    have f4 : ((q : Nat) : Int) < ((q + 1 : Nat) : Int) := by omega
    have f4' : ((q : Nat) : Int) ≤ ((q + 1 : Nat) : Int) := by omega
    have f5 : Int.toNat ((q : Nat) : Int) = q := rfl
    have f6 := mid_get (A := A0) (G := G) (x := .x v) hAl
    refine wpIn_seq (hold_T hE hm [(1, .x (.func (.func cf) #[] lb)), (4, .ptr 4 0), (5, .x (.slice (some ⟨g0, 0, none⟩) 1 c0)), (6, .row 14 1 (q + 1))] [(4, [.x (.int .i64 0), .x (.string ⟨#[]⟩), .x (.string ⟨#[]⟩), .x (.int .i64 0), .x (.int .i64 0), .x (.string ⟨#[]⟩), .x (.string ⟨#[]⟩), .x (.int .i64 0), .x (.int .i64 0), .x (.string ⟨#[]⟩), .x (.int .i64 0), .x (.int .i64 0), .sl true 0 [] none]), (14, A0 ++ .x v :: G)] (by kernel_rfl) (by kernel_rfl) h1 (by simp (decide := true) (maxDischargeDepth := 200) only [go_sem, Nat.reduceBEq, f1] <;> (repeat' first | rfl | constructor)) ?_)
    clear h1 a w1
    intro a w1 h1
    refine wpIn_block ?_
    refine wpIn_seq (hold_T hE hm [(1, .x (.func (.func cf) #[] lb)), (4, .ptr 4 0), (5, .x (.slice (some ⟨g0, 0, none⟩) 1 c0)), (6, .row 14 1 (q + 1)), (7, .x (.int .i64 ((q : Nat) : Int)))] [(4, [.x (.int .i64 0), .x (.string ⟨#[]⟩), .x (.string ⟨#[]⟩), .x (.int .i64 0), .x (.int .i64 0), .x (.string ⟨#[]⟩), .x (.string ⟨#[]⟩), .x (.int .i64 0), .x (.int .i64 0), .x (.string ⟨#[]⟩), .x (.int .i64 0), .x (.int .i64 0), .sl true 0 [] none]), (14, A0 ++ .x v :: G)] (by kernel_rfl) (by kernel_rfl) h1 (by simp (decide := true) (maxDischargeDepth := 200) only [go_sem, Nat.reduceBEq, f2] <;> (repeat' first | rfl | constructor)) ?_)
    clear h1 a w1
    intro a w1 h1
    refine wpIn_seq (hold_T hE hm [(1, .x (.func (.func cf) #[] lb)), (4, .ptr 4 0), (5, .x (.slice (some ⟨g0, 0, none⟩) 1 c0)), (6, .row 14 1 (q + 1)), (7, .x (.int .i64 ((q : Nat) : Int))), (8, .x v)] [(4, [.x (.int .i64 0), .x (.string ⟨#[]⟩), .x (.string ⟨#[]⟩), .x (.int .i64 0), .x (.int .i64 0), .x (.string ⟨#[]⟩), .x (.string ⟨#[]⟩), .x (.int .i64 0), .x (.int .i64 0), .x (.string ⟨#[]⟩), .x (.int .i64 0), .x (.int .i64 0), .sl true 0 [] none]), (14, A0 ++ .x v :: G)] (by kernel_rfl) (by kernel_rfl) h1 (by simp (decide := true) (maxDischargeDepth := 200) only [go_sem, Nat.reduceBEq, f3, f4, f5, f6, Nat.mul_one] <;> (repeat' first | rfl | constructor)) ?_)
    clear h1 a w1
    intro a w1 h1
    refine wpIn_seq (hold_T hE hm [(1, .x (.func (.func cf) #[] lb)), (4, .ptr 4 0), (5, .x (.slice (some ⟨g0, 0, none⟩) 1 c0)), (6, .row 14 1 q), (8, .x v)] [(4, [.x (.int .i64 0), .x (.string ⟨#[]⟩), .x (.string ⟨#[]⟩), .x (.int .i64 0), .x (.int .i64 0), .x (.string ⟨#[]⟩), .x (.string ⟨#[]⟩), .x (.int .i64 0), .x (.int .i64 0), .x (.string ⟨#[]⟩), .x (.int .i64 0), .x (.int .i64 0), .sl true 0 [] none]), (14, A0 ++ .x v :: G)] (by kernel_rfl) (by kernel_rfl) h1 (by simp (decide := true) (maxDischargeDepth := 200) only [go_sem, Nat.reduceBEq, f3, f4', f5] <;> (repeat' first | rfl | constructor)) ?_)
    clear h1 a w1
    intro a w1 h1
    obtain ⟨m1, O, gs, q1, q2, q3, q4, q5, q6, q7⟩ := h1
    have hv8 : a.tmps.getD 8 Go.undef = v := q1.val 8 rfl
    have q2' : Bed globK 13 m1 w1 ((v, ks.map nodeV) :: Pend.bed P1) gs := q2
    clear q2
    have hgP : Pend.good P1 := fun p hp => hPg p (List.mem_cons_of_mem _ hp)
    have hgk : goodL ks := hPg (v, ks) (List.mem_cons_self ..)
    generalize hes : ks.map nodeV = es at q2'
    cases q2' with
    | no q2 =>
      obtain rfl : ks = [] := List.map_eq_nil_iff.1 hes
      have h1 : Hold (envM [] (fun d => d == 12 || d == 14)) 54 13 ⟨Fut T P1 (fun m w => Rd m w (.slice (some ⟨g0, 0, none⟩) 1 c0) (.sl false 13 [nodeV (T.all nd)] none)), fun _ => true, #[], m, w⟩ (Pend.bed P1) (stOf [(1, .x (.func (.func cf) #[] lb)), (4, .ptr 4 0), (5, .x (.slice (some ⟨g0, 0, none⟩) 1 c0)), (6, .row 14 1 q), (8, .sl true 13 [] none)] [(4, [.x (.int .i64 0), .x (.string ⟨#[]⟩), .x (.string ⟨#[]⟩), .x (.int .i64 0), .x (.int .i64 0), .x (.string ⟨#[]⟩), .x (.string ⟨#[]⟩), .x (.int .i64 0), .x (.int .i64 0), .x (.string ⟨#[]⟩), .x (.int .i64 0), .x (.int .i64 0), .sl true 0 [] none]), (14, A0 ++ .x (.slice none 0 0) :: G)]) a w1 := by
        have hl := q1.learn (d := 8) (by decide) (u := .sl true 13 [] none) (by rw [hv8]; exact .nil _ _)
        exact ⟨m1, O, gs, hl.le (le_stOf (by simp (decide := true) (maxDischargeDepth := 200) only [go_sem, Nat.reduceBEq] <;> (repeat' first | rfl | constructor)) (by simp (decide := true) (maxDischargeDepth := 200) only [go_sem, Nat.reduceBEq] <;> (repeat' first | rfl | constructor))), q2, q3, q4, q5, fut_nil q6, fun i hi => by cases hi⟩
      clear q1 q2 q3 q4 q5 q6 q7 hv8
      refine wpIn_seq (hold_T hE hm [(1, .x (.func (.func cf) #[] lb)), (4, .ptr 4 0), (5, .x (.slice (some ⟨g0, 0, none⟩) 1 c0)), (6, .row 14 1 q), (29, .x (.int .i64 0)), (30, .x (.int .i64 0))] [(4, [.x (.int .i64 0), .x (.string ⟨#[]⟩), .x (.string ⟨#[]⟩), .x (.int .i64 0), .x (.int .i64 0), .x (.string ⟨#[]⟩), .x (.string ⟨#[]⟩), .x (.int .i64 0), .x (.int .i64 0), .x (.string ⟨#[]⟩), .x (.int .i64 0), .x (.int .i64 0), .sl true 0 [] none]), (14, A0 ++ .x (.slice none 0 0) :: G)] (by kernel_rfl) (by kernel_rfl) h1 (by simp (decide := true) (maxDischargeDepth := 200) only [go_sem, Nat.reduceBEq, List.length_nil] <;> (repeat' first | rfl | constructor)) ?_)
      clear h1 a w1
      intro a w1 h1
      refine wpIn_block (wpIn_loopX (X := Unit) (fun _ a' w' => Hold (envM [] (fun d => d == 12 || d == 14)) 54 13 ⟨Fut T P1 (fun m w => Rd m w (.slice (some ⟨g0, 0, none⟩) 1 c0) (.sl false 13 [nodeV (T.all nd)] none)), fun _ => true, #[], m, w⟩ (Pend.bed P1) (stOf [(1, .x (.func (.func cf) #[] lb)), (4, .ptr 4 0), (5, .x (.slice (some ⟨g0, 0, none⟩) 1 c0)), (6, .row 14 1 q), (29, .x (.int .i64 0)), (30, .x (.int .i64 0))] [(4, [.x (.int .i64 0), .x (.string ⟨#[]⟩), .x (.string ⟨#[]⟩), .x (.int .i64 0), .x (.int .i64 0), .x (.string ⟨#[]⟩), .x (.string ⟨#[]⟩), .x (.int .i64 0), .x (.int .i64 0), .x (.string ⟨#[]⟩), .x (.int .i64 0), .x (.int .i64 0), .sl true 0 [] none]), (14, A0 ++ .x (.slice none 0 0) :: G)]) a' w') (fun _ => 0) () h1 ?_)
      rintro _ a w1 h1
      refine hold_X hE hm 2 [(1, .x (.func (.func cf) #[] lb)), (4, .ptr 4 0), (5, .x (.slice (some ⟨g0, 0, none⟩) 1 c0)), (6, .row 14 1 q)] [(4, [.x (.int .i64 0), .x (.string ⟨#[]⟩), .x (.string ⟨#[]⟩), .x (.int .i64 0), .x (.int .i64 0), .x (.string ⟨#[]⟩), .x (.string ⟨#[]⟩), .x (.int .i64 0), .x (.int .i64 0), .x (.string ⟨#[]⟩), .x (.int .i64 0), .x (.int .i64 0), .sl true 0 [] none]), (14, A0 ++ .x (.slice none 0 0) :: G)] (by kernel_rfl) (by kernel_rfl) h1 (by simp (decide := true) (maxDischargeDepth := 200) only [go_sem, Nat.reduceBEq] <;> (repeat' first | rfl | constructor)) ?_
      intro a' w' h2
      refine ⟨(P1, .x (.slice none 0 0) :: G), ⟨hgP, ?_, ?_⟩, ?_⟩
      · show Pend.m P1 ≤ 801
        omega
      · simp only
        rw [← hA, ← hq]
        exact h2
      · show Pend.m P1 < Pend.m ((_, []) :: P1)
        simp only [Pend.m]
        omega
    | row hne hL hgg q2 =>
      rename_i g gs
      rw [← hes] at hL hne
      have hne' : ks ≠ [] := fun e => hne (by rw [e]; rfl)
      obtain ⟨T8, hT8⟩ : ∃ T8, T8 = a.tmps := ⟨_, rfl⟩
      have h1 : Hold (envM [] (fun d => d == 12 || d == 14)) 54 13 ⟨Fut T ((v, ks) :: P1) (fun m w => Rd m w (.slice (some ⟨g0, 0, none⟩) 1 c0) (.sl false 13 [nodeV (T.all nd)] none)), (fun i => i != 8), T8, m, w⟩ (Pend.bed P1) (stOf [(1, .x (.func (.func cf) #[] lb)), (4, .ptr 4 0), (5, .x (.slice (some ⟨g0, 0, none⟩) 1 c0)), (6, .row 14 1 q), (8, .row 24 13 ks.length)] [(4, [.x (.int .i64 0), .x (.string ⟨#[]⟩), .x (.string ⟨#[]⟩), .x (.int .i64 0), .x (.int .i64 0), .x (.string ⟨#[]⟩), .x (.string ⟨#[]⟩), .x (.int .i64 0), .x (.int .i64 0), .x (.string ⟨#[]⟩), .x (.int .i64 0), .x (.int .i64 0), .sl true 0 [] none]), (14, A0 ++ .x v :: G), (24, todoC ks)]) a w1 := by
        have ht := q1.take hMB hL (nodes_13 ks) (q3 g (List.mem_cons_self ..)).1 (d := 8) (s := 24) hv8 (by simp (decide := true) (maxDischargeDepth := 200) only [go_sem]) (by decide)
        refine ⟨m1, _, gs, ht.le (le_stOf (by rw [List.length_map]; exact (by simp (decide := true) (maxDischargeDepth := 200) only [go_sem, Nat.reduceBEq] <;> (repeat' first | rfl | constructor))) (by rw [todoC_eq]; exact (by simp (decide := true) (maxDischargeDepth := 200) only [go_sem, Nat.reduceBEq] <;> (repeat' first | rfl | constructor)))), q2, fun g' hg' => ⟨fun ho => ?_, (q3 g' (List.mem_cons_of_mem _ hg')).2⟩, fun k hk => ?_, q5, q6, by rw [hT8]; exact KeepT.refl _ _⟩
        · rcases ho with ho | rfl
          · exact (q3 g' (List.mem_cons_of_mem _ hg')).1 ho
          · exact hgg hg'
        · rcases hk with hk | rfl
          · exact q4 k hk
          · exact (q3 _ (List.mem_cons_self ..)).2
      rw [← hT8] at hv8
      clear q1 q2 q3 q4 q5 q6 q7 hL hgg hT8
      refine wpIn_seq (hold_T hE hm [(1, .x (.func (.func cf) #[] lb)), (4, .ptr 4 0), (5, .x (.slice (some ⟨g0, 0, none⟩) 1 c0)), (6, .row 14 1 q), (8, .row 24 13 ks.length), (28, .row 24 13 ks.length), (29, .x (.int .i64 ((ks.length : Nat) : Int))), (30, .x (.int .i64 ((0 : Nat) : Int)))] [(4, [.x (.int .i64 0), .x (.string ⟨#[]⟩), .x (.string ⟨#[]⟩), .x (.int .i64 0), .x (.int .i64 0), .x (.string ⟨#[]⟩), .x (.string ⟨#[]⟩), .x (.int .i64 0), .x (.int .i64 0), .x (.string ⟨#[]⟩), .x (.int .i64 0), .x (.int .i64 0), .sl true 0 [] none]), (14, A0 ++ .x v :: G), (24, todoC ks)] (by kernel_rfl) (by kernel_rfl) h1 (by simp (decide := true) (maxDischargeDepth := 200) only [go_sem, Nat.reduceBEq] <;> (repeat' first | rfl | constructor)) ?_)
      clear h1 a w1
      intro a w1 h1
      refine wpIn_block (wpIn_loopX (X := List (Nd × Value) × List Nd × List V) (fun x a' w' => x.1.map (·.1) ++ x.2.1 = ks ∧ Hold (envM [] (fun d => d == 12 || d == 14)) 54 13 ⟨Fut T ((v, ks) :: P1) (fun m w => Rd m w (.slice (some ⟨g0, 0, none⟩) 1 c0) (.sl false 13 [nodeV (T.all nd)] none)), (fun i => i != 8), T8, m, w⟩ (Pend.bed (kidsP T x.1 ++ P1)) (stOf [(1, .x (.func (.func cf) #[] lb)), (4, .ptr 4 0), (5, .x (.slice (some ⟨g0, 0, none⟩) 1 c0)), (6, .row 14 1 (q + x.1.length)), (8, .row 24 13 ks.length), (28, .row 24 13 ks.length), (29, .x (.int .i64 ((ks.length : Nat) : Int))), (30, .x (.int .i64 ((x.1.length : Nat) : Int)))] [(4, [.x (.int .i64 0), .x (.string ⟨#[]⟩), .x (.string ⟨#[]⟩), .x (.int .i64 0), .x (.int .i64 0), .x (.string ⟨#[]⟩), .x (.string ⟨#[]⟩), .x (.int .i64 0), .x (.int .i64 0), .x (.string ⟨#[]⟩), .x (.int .i64 0), .x (.int .i64 0), .sl true 0 [] none]), (14, (A0 ++ x.1.map (fun p => V.x p.2)) ++ x.2.2), (24, doneC T x.1 ++ todoC x.2.1)]) a' w') (fun x => x.2.1.length) ([], ks, .x v :: G) ⟨rfl, by simp only [List.map_nil, List.append_nil]; exact h1⟩ ?_)
      clear h1 a w1
      rintro ⟨done, todo, G2⟩ a w1 ⟨hks, h1⟩
      simp only at hks h1
      have hlen : done.length + todo.length = ks.length := by rw [← hks]; simp
      have hk4 : ks.length ≤ 400 := by have := cntL_len ks; omega
      obtain ⟨i, hi⟩ : ∃ i, i = done.length := ⟨_, rfl⟩
      rw [← hi] at h1
      cases todo with
      | nil =>
        have hks' : done.map (·.1) = ks := by simpa using hks
        have hik : i = ks.length := by rw [hi, ← hlen]; rfl
        have hdne : done ≠ [] := fun e => hne' (by rw [← hks', e]; rfl)
        have c1 : decide (((i : Nat) : Int) < ((ks.length : Nat) : Int)) = false := decide_eq_false (by omega)
        refine hold_X hE hm 2 [(1, .x (.func (.func cf) #[] lb)), (4, .ptr 4 0), (5, .x (.slice (some ⟨g0, 0, none⟩) 1 c0)), (6, .row 14 1 (q + i)), (8, .row 24 13 ks.length)] [(4, [.x (.int .i64 0), .x (.string ⟨#[]⟩), .x (.string ⟨#[]⟩), .x (.int .i64 0), .x (.int .i64 0), .x (.string ⟨#[]⟩), .x (.string ⟨#[]⟩), .x (.int .i64 0), .x (.int .i64 0), .x (.string ⟨#[]⟩), .x (.int .i64 0), .x (.int .i64 0), .sl true 0 [] none]), (14, (A0 ++ done.map (fun p => V.x p.2)) ++ G2), (24, doneC T done ++ todoC [])] (by kernel_rfl) (by kernel_rfl) h1 (by simp (decide := true) (maxDischargeDepth := 200) only [go_sem, Nat.reduceBEq, c1] <;> (repeat' first | rfl | constructor)) ?_
        clear h1 a w1
        intro a w1 h1
        obtain ⟨m2, O2, gs2, r1, r2, r3, r4, r5, r6, r7⟩ := h1
        obtain ⟨g2, s1, s2, s3, s4, s5, s6⟩ := r1.shed hMB (s := 24) (cs := doneC T done ++ todoC []) rfl (st' := stOf [(1, .x (.func (.func cf) #[] lb)), (4, .ptr 4 0), (5, .x (.slice (some ⟨g0, 0, none⟩) 1 c0)), (6, .row 14 1 (q + i))] [(4, [.x (.int .i64 0), .x (.string ⟨#[]⟩), .x (.string ⟨#[]⟩), .x (.int .i64 0), .x (.int .i64 0), .x (.string ⟨#[]⟩), .x (.string ⟨#[]⟩), .x (.int .i64 0), .x (.int .i64 0), .x (.string ⟨#[]⟩), .x (.int .i64 0), .x (.int .i64 0), .sl true 0 [] none]), (14, (A0 ++ done.map (fun p => V.x p.2)) ++ G2)]) (le_stOf (by simp (decide := true) (maxDischargeDepth := 200) only [go_sem, Nat.reduceBEq] <;> (repeat' first | rfl | constructor)) (by simp (decide := true) (maxDischargeDepth := 200) only [go_sem, Nat.reduceBEq] <;> (repeat' first | rfl | constructor))) rfl
        obtain ⟨_, cap2, cur2, ty2, u1, u2, u3, u4⟩ := s5 8 13 ks.length rfl
        have hve : v = .slice (some ⟨g2, 0, none⟩) done.length cap2 := by rw [← hv8, ← r7 8 rfl, u1, ← hik, hi]
        have hfz := s6.other (Step.freeze g2 m2 w1) (fun k hk e => hk.2 e) s6.J
        refine ⟨(kidsP T done ++ P1, G2), ⟨fun p hp => ?_, ?_, ?_⟩, ?_⟩
        · rcases List.mem_append.1 hp with hp | hp
          · exact kidsP_good T hT (by rw [hks']; exact hgk) p hp
          · exact hgP p hp
        · have := kidsP_m T done
          rw [hks'] at this
          show Pend.m (kidsP T done ++ P1) ≤ 801
          rw [Pend.m_append]
          omega
        · simp only
          rw [opC_kids, ← hA, List.length_append, kidsP_len, ← hq, ← hi, Nat.add_comm i q]
          refine ⟨_, _, gs2, hfz, r2.stab (Step.freeze g2 m2 w1) (fun g hg e => (r3 g hg).1 (e ▸ s1)), fun g hg => ⟨fun ho => (r3 g hg).1 ho.1, (r3 g hg).2⟩, fun k hk => r4 k hk.1, r5.next (Step.freeze g2 m2 w1) (fun j hj e => absurd hj (Nat.not_lt.2 (e ▸ r4 g2 s1))), ?_, fun j hj => by cases hj⟩
          refine fut_next (v := v) (cap := cap2) (by rw [hks']; exact r6) hdne ?_ hve (by rw [hi] at hik; rw [hik]; exact u3)
          have e0 : doneC T done ++ todoC [] = doneC T done := List.append_nil _
          rw [e0] at s3
          exact s3
        · have := kidsP_m T done
          rw [hks'] at this
          show Pend.m (kidsP T done ++ P1) < Pend.m ((v, ks) :: P1)
          rw [Pend.m_append]
          simp only [Pend.m]
          omega
      | cons n0 todo =>
        obtain ⟨AV, hAV⟩ : ∃ AV : List Value, (A0 ++ done.map (fun p => V.x p.2)) = AV.map V.x := ⟨(P1.map (·.1)).reverse ++ done.map (·.2), by rw [hA]; simp [opC, Function.comp_def]⟩
        have hAVl : (AV.map V.x).length = q + i := by rw [← hAV, List.length_append, hAl, List.length_map, hi]
        obtain ⟨BX, hBX⟩ : ∃ BX, BX = doneC T done ++ todoC (n0 :: todo) := ⟨_, rfl⟩
        rw [hAV, ← hBX] at h1
        obtain ⟨k', op', nm', vk', vn', vs', cs', cc', cr', ts', tc', tr', l', nl', sz', hh', hl', hf', hs'⟩ := node_cases n0
        have hc0 : (nodeV n0).cells = [.x (.int .i64 k'), .x (.string op'), .x (.string nm'), .x (.int .i64 vk'), .x (.int .i64 vn'), .x (.string vs'), .x (.string cs'), .x (.int .i64 cc'), .x (.int .i64 cr'), .x (.string ts'), .x (.int .i64 tc'), .x (.int .i64 tr'), .sl nl' sz' (l'.map nodeV) none] := by rw [hf']; rfl
        have hdl : (doneC T done).length = i * 13 := by rw [doneC_len, hi]
        have e0 : todoC (n0 :: todo) = (nodeV n0).cells ++ todoC todo := rfl
        have hin : n0 ∈ ks := by rw [← hks]; simp
        have hgood0 : good n0 := goodL_iff.1 hgk n0 hin
        have hkc : cnt n0 ≤ 400 := by have := cntL_mem hin; omega
        have c1 : decide (((i : Nat) : Int) < ((ks.length : Nat) : Int)) = true := decide_eq_true (by simp only [List.length_cons] at hlen; omega)
        have c2 : (0 : Int) ≤ ((i : Nat) : Int) := by omega
        have c3 : ((i : Nat) : Int) < ((ks.length : Nat) : Int) := of_decide_eq_true c1
        have c4 : Int.toNat ((i : Nat) : Int) = i := rfl
        have c5 : i * 13 + 13 ≤ BX.length := by rw [hBX, e0, List.length_append, List.length_append, hdl, cells_len]; omega
        have c6 : (BX.drop (i * 13)).take 13 = [.x (.int .i64 k'), .x (.string op'), .x (.string nm'), .x (.int .i64 vk'), .x (.int .i64 vn'), .x (.string vs'), .x (.string cs'), .x (.int .i64 cc'), .x (.int .i64 cr'), .x (.string ts'), .x (.int .i64 tc'), .x (.int .i64 tr'), .sl nl' sz' (l'.map nodeV) none] := by
          rw [hBX, e0, mid_drop hdl, ← hc0]
          exact mid_take (cells_len n0)
        refine wpIn_seq (hold_T hE hm [(1, .x (.func (.func cf) #[] lb)), (4, .ptr 4 0), (5, .x (.slice (some ⟨g0, 0, none⟩) 1 c0)), (6, .row 14 1 (q + i)), (8, .row 24 13 ks.length), (28, .row 24 13 ks.length), (29, .x (.int .i64 ((ks.length : Nat) : Int))), (30, .x (.int .i64 ((i : Nat) : Int))), (31, .x (.bool true))] [(4, [.x (.int .i64 0), .x (.string ⟨#[]⟩), .x (.string ⟨#[]⟩), .x (.int .i64 0), .x (.int .i64 0), .x (.string ⟨#[]⟩), .x (.string ⟨#[]⟩), .x (.int .i64 0), .x (.int .i64 0), .x (.string ⟨#[]⟩), .x (.int .i64 0), .x (.int .i64 0), .sl true 0 [] none]), (14, AV.map V.x ++ G2), (24, BX)] (by kernel_rfl) (by kernel_rfl) h1 (by simp (decide := true) (maxDischargeDepth := 200) only [go_sem, Nat.reduceBEq, c1] <;> (repeat' first | rfl | constructor)) ?_)
        clear h1 a w1
        intro a w1 h1
        refine wpIn_seq (hold_T hE hm [(1, .x (.func (.func cf) #[] lb)), (4, .ptr 4 0), (5, .x (.slice (some ⟨g0, 0, none⟩) 1 c0)), (6, .row 14 1 (q + i)), (8, .row 24 13 ks.length), (28, .row 24 13 ks.length), (29, .x (.int .i64 ((ks.length : Nat) : Int))), (30, .x (.int .i64 ((i : Nat) : Int)))] [(4, [.x (.int .i64 0), .x (.string ⟨#[]⟩), .x (.string ⟨#[]⟩), .x (.int .i64 0), .x (.int .i64 0), .x (.string ⟨#[]⟩), .x (.string ⟨#[]⟩), .x (.int .i64 0), .x (.int .i64 0), .x (.string ⟨#[]⟩), .x (.int .i64 0), .x (.int .i64 0), .sl true 0 [] none]), (14, AV.map V.x ++ G2), (24, BX)] (by kernel_rfl) (by kernel_rfl) h1 (by simp (decide := true) (maxDischargeDepth := 200) only [go_sem, Nat.reduceBEq] <;> (repeat' first | rfl | constructor)) ?_)
        clear h1 a w1
        intro a w1 h1
        refine wpIn_seq (wpIn_block ?_)
        refine wpIn_seq (hold_T hE hm [(1, .x (.func (.func cf) #[] lb)), (4, .ptr 4 0), (5, .x (.slice (some ⟨g0, 0, none⟩) 1 c0)), (6, .row 14 1 (q + i)), (8, .row 24 13 ks.length), (28, .row 24 13 ks.length), (29, .x (.int .i64 ((ks.length : Nat) : Int))), (30, .x (.int .i64 ((i : Nat) : Int))), (9, .x (.int .i64 ((i : Nat) : Int))), (10, .ptr 10 0)] [(4, [.x (.int .i64 0), .x (.string ⟨#[]⟩), .x (.string ⟨#[]⟩), .x (.int .i64 0), .x (.int .i64 0), .x (.string ⟨#[]⟩), .x (.string ⟨#[]⟩), .x (.int .i64 0), .x (.int .i64 0), .x (.string ⟨#[]⟩), .x (.int .i64 0), .x (.int .i64 0), .sl true 0 [] none]), (14, AV.map V.x ++ G2), (24, BX), (10, [.x (.int .i64 k'), .x (.string op'), .x (.string nm'), .x (.int .i64 vk'), .x (.int .i64 vn'), .x (.string vs'), .x (.string cs'), .x (.int .i64 cc'), .x (.int .i64 cr'), .x (.string ts'), .x (.int .i64 tc'), .x (.int .i64 tr'), .sl nl' sz' (l'.map nodeV) none])] (by kernel_rfl) (by kernel_rfl) h1 (by simp (decide := true) (maxDischargeDepth := 200) only [go_sem, Nat.reduceBEq, c2, c3, c4, c5, c6] <;> (repeat' first | rfl | constructor)) ?_)
        clear h1 a w1
        intro a w1 h1
        refine wpIn_seq (wpIn_region ?_)
        refine hold_S hE 0 4 [(1, .x (.func (.func cf) #[] lb)), (4, .ptr 4 0), (5, .x (.slice (some ⟨g0, 0, none⟩) 1 c0)), (6, .row 14 1 (q + i)), (8, .row 24 13 ks.length), (28, .row 24 13 ks.length), (29, .x (.int .i64 ((ks.length : Nat) : Int))), (30, .x (.int .i64 ((i : Nat) : Int))), (9, .x (.int .i64 ((i : Nat) : Int))), (35, .row 24 13 ks.length), (36, .x (.int .i64 ((i : Nat) : Int))), (37, .x (.func (.func cf) #[] lb)), (38, .agg [.x (.int .i64 k'), .x (.string op'), .x (.string nm'), .x (.int .i64 vk'), .x (.int .i64 vn'), .x (.string vs'), .x (.string cs'), .x (.int .i64 cc'), .x (.int .i64 cr'), .x (.string ts'), .x (.int .i64 tc'), .x (.int .i64 tr'), .sl nl' sz' (l'.map nodeV) none])] [(4, [.x (.int .i64 0), .x (.string ⟨#[]⟩), .x (.string ⟨#[]⟩), .x (.int .i64 0), .x (.int .i64 0), .x (.string ⟨#[]⟩), .x (.string ⟨#[]⟩), .x (.int .i64 0), .x (.int .i64 0), .x (.string ⟨#[]⟩), .x (.int .i64 0), .x (.int .i64 0), .sl true 0 [] none]), (14, AV.map V.x ++ G2), (24, BX)] [4, 5, 6, 7] (by decide) (by kernel_rfl) (by kernel_rfl) h1 (by simp (decide := true) (maxDischargeDepth := 200) only [go_sem, Nat.reduceBEq] <;> (repeat' first | rfl | constructor)) ?_
        clear h1 a w1
        intro a w1 h1
        obtain ⟨m1, O, gs, q1, q2, q3, q4, q5, q6, q7⟩ := h1
        have h38 : Rd m1 w1 (a.eval (.tmp 38)) (nodeV n0) := by rw [hf']; exact runOf_read0 q1 38 rfl rfl
        refine hold_call (i := 4) (rest := [5, 6, 7]) (d := 39) (c := .tmp 37) (f := cf) (lb := lb) rfl rfl rfl rfl (q1.val 37 rfl) hcf (R := fun v2 w2 => ∃ m2, Step (fun _ => False) m1 w1 m2 w2 ∧ Glob w2 ∧ Rd m2 w2 v2 (nodeV (T.one n0))) (by
          rw [show Array.map a.eval #[Operand.tmp 38] = #[a.eval (.tmp 38)] from by simp]
          exact (hturn m1 w1 q5 q1.J _ n0 h38 hgood0).mono (fun e w2 ⟨v2, e1, h2⟩ => ⟨v2, e1, h2⟩)) ?_
        rintro v2 w2 ⟨m2, s1, s2, s3⟩
        have h1 := Hold.after (Q := []) (gs2 := []) (d := 39) q1 q2 q3 q4 q5 q6 q7 s1 s2 (by decide) rfl s3 (q2.stab s1 (fun _ _ h => h)) (fun g hg => by cases hg)
        generalize a.put (some 39) v2 = a1 at h1 ⊢
        clear q1 q2 q3 q4 q5 q6 q7 s1 s2 s3 h38 a w1 m1
        obtain ⟨m1, O, gs, q1, q2, q3, q4, q5, q6, q7⟩ := h1
        have h39 : Rd m1 w2 (a1.eval (.tmp 39)) (nodeV (T.one n0)) := runOf_read0 q1 39 (u := nodeV (T.one n0)) (node_bare (T.one n0)) (node_dat _)
        obtain ⟨g1, g2⟩ := good_one T hT hgood0
        have hk1 : (T.one n0).ks.length ≤ 400 := by have := T.one_cnt n0; have := cntL_len (T.one n0).ks; omega
        refine hold_call (i := 5) (rest := [6, 7]) (d := 40) (c := .func 25) (f := 25) (lb := #[]) rfl rfl rfl rfl rfl (fun a w => Try.call25 a w) (R := fun v3 w3 => ∃ m' kv gs, Step (fun _ => False) m1 w2 m' w3 ∧ Glob w3 ∧ Rd m' w3 v3 (.agg (cellsH (T.one n0).hd (.x kv))) ∧ Bed globK 13 m' w3 [(kv, (T.one n0).ks.map nodeV)] gs ∧ ∀ g ∈ gs, w2.heap.size ≤ g) (by
          rw [show Array.map a1.eval #[Operand.tmp 39] ++ #[] = #[a1.eval (.tmp 39)] from by simp]
          exact (copied_calls h39 g1 hk1 q1.J).mono (fun e w3 ⟨v3, e1, h2⟩ => ⟨v3, e1, h2⟩)) ?_
        rintro v3 w3 ⟨m3, kv, gs3, s1, s2, s3, s4, s5⟩
        obtain ⟨ao, ln, cp, rfl⟩ := s4.slice
        obtain ⟨hd1, hhd1⟩ : ∃ hd1, hd1 = (T.one n0).hd := ⟨_, rfl⟩
        rw [← hhd1] at s3
        have s3' : Rd m3 w3 v3 (.agg [.x (.int .i64 hd1.k), .x (.string hd1.op), .x (.string hd1.nm), .x (.int .i64 hd1.vk), .x (.int .i64 hd1.vn), .x (.string hd1.vs), .x (.string hd1.cs), .x (.int .i64 hd1.cc), .x (.int .i64 hd1.cr), .x (.string hd1.ts), .x (.int .i64 hd1.tc), .x (.int .i64 hd1.tr), .x (.slice ao ln cp)]) := s3
        have h1 := Hold.after (Q := [((Value.slice ao ln cp), (T.one n0).ks.map nodeV)]) (gs2 := gs3) (d := 40) q1 q2 q3 q4 q5 q6 q7 s1 s2 (by decide) rfl s3' (Bed.cons1 s4 (q2.stab s1 (fun _ _ h => h)) (fun g hg hg' => absurd (q2.lt g hg') (Nat.not_lt.2 (s5 g hg)))) s5
        generalize a1.put (some 40) v3 = a at h1 ⊢
        clear q1 q2 q3 q4 q5 q6 q7 s1 s2 s3 s3' s4 s5 h39 a1 w2 m1
        obtain ⟨BY, hBY⟩ : ∃ BY, BY = doneC T done ++ [.x (.int .i64 hd1.k), .x (.string hd1.op), .x (.string hd1.nm), .x (.int .i64 hd1.vk), .x (.int .i64 hd1.vn), .x (.string hd1.vs), .x (.string hd1.cs), .x (.int .i64 hd1.cc), .x (.int .i64 hd1.cr), .x (.string hd1.ts), .x (.int .i64 hd1.tc), .x (.int .i64 hd1.tr), .x (.slice ao ln cp)] ++ todoC todo := ⟨_, rfl⟩
        have c7 : BX.take (i * 13) ++ [.x (.int .i64 hd1.k), .x (.string hd1.op), .x (.string hd1.nm), .x (.int .i64 hd1.vk), .x (.int .i64 hd1.vn), .x (.string hd1.vs), .x (.string hd1.cs), .x (.int .i64 hd1.cc), .x (.int .i64 hd1.cr), .x (.string hd1.ts), .x (.int .i64 hd1.tc), .x (.int .i64 hd1.tr), .x (.slice ao ln cp)] ++ BX.drop (i * 13 + 13) = BY := by
          rw [hBY, hBX, e0, mid_take hdl, ← List.append_assoc, mid_drop (by rw [List.length_append, hdl, cells_len])]
        have c8 : BY[i * 13 + 12]? = some (.x (Value.slice ao ln cp)) := by
          rw [hBY, List.append_assoc, List.getElem?_append_right (by omega), hdl, Nat.add_sub_cancel_left]
          rfl
        have c9 : i * 13 + 12 < BY.length := lt_of_some c8
        refine hold_S hE 6 2 [(1, .x (.func (.func cf) #[] lb)), (4, .ptr 4 0), (5, .x (.slice (some ⟨g0, 0, none⟩) 1 c0)), (6, .row 14 1 (q + i)), (8, .row 24 13 ks.length), (28, .row 24 13 ks.length), (29, .x (.int .i64 ((ks.length : Nat) : Int))), (30, .x (.int .i64 ((i : Nat) : Int))), (9, .x (.int .i64 ((i : Nat) : Int)))] [(4, [.x (.int .i64 0), .x (.string ⟨#[]⟩), .x (.string ⟨#[]⟩), .x (.int .i64 0), .x (.int .i64 0), .x (.string ⟨#[]⟩), .x (.string ⟨#[]⟩), .x (.int .i64 0), .x (.int .i64 0), .x (.string ⟨#[]⟩), .x (.int .i64 0), .x (.int .i64 0), .sl true 0 [] none]), (14, AV.map V.x ++ G2), (24, BY)] [] (by decide) (by kernel_rfl) (by kernel_rfl) h1 (by simp (decide := true) (maxDischargeDepth := 200) only [go_sem, Nat.reduceBEq, c2, c3, c4, c5, c7] <;> (repeat' first | rfl | constructor)) ?_
        clear h1 a w3
        intro a w1 h1
        have g9' : ∀ (st : St) (d s : Nat) (nl : Bool) (t' : Option Nat), (envM [] (fun d => d == 12 || d == 14)).MB d = false → growV (envM [] (fun d => d == 12 || d == 14)) st (some d) 26 (.row s 1 (q + i)) (.sl nl 1 [.x (Value.slice ao ln cp)] t') = match st.b s with
            | some cs => some ⟨upd (kill s (kill d st.t)) d (.row d 1 (q + i + 1)), upd (upd st.b s none) d (some (cs.take ((q + i) * 1) ++ [.x (Value.slice ao ln cp)]))⟩
            | none => none := fun st d s nl t' h => growR_acc (E := (envM [] (fun d => d == 12 || d == 14))) sz26 by26 ze26 (by decide) rfl rfl (by simp only [List.length_cons] at hlen; omega) (by simp only [List.length_cons] at hlen; omega) st d s nl t' h
        have g9 := fun st d s nl t' => g9' st d s nl t' rfl
        have g8 : (AV.map V.x ++ G2).take (q + i) = AV.map V.x := mid_take hAVl
        refine hold_T hE hm [(6, .row 49 1 (q + i + 1)), (1, .x (.func (.func cf) #[] lb)), (4, .ptr 4 0), (5, .x (.slice (some ⟨g0, 0, none⟩) 1 c0)), (8, .row 24 13 ks.length), (28, .row 24 13 ks.length), (29, .x (.int .i64 ((ks.length : Nat) : Int))), (30, .x (.int .i64 ((i : Nat) : Int)))] [(4, [.x (.int .i64 0), .x (.string ⟨#[]⟩), .x (.string ⟨#[]⟩), .x (.int .i64 0), .x (.int .i64 0), .x (.string ⟨#[]⟩), .x (.string ⟨#[]⟩), .x (.int .i64 0), .x (.int .i64 0), .x (.string ⟨#[]⟩), .x (.int .i64 0), .x (.int .i64 0), .sl true 0 [] none]), (49, AV.map V.x ++ [.x (.slice ao ln cp)]), (24, BY)] (by kernel_rfl) (by kernel_rfl) h1 (by simp (decide := true) (maxDischargeDepth := 200) only [go_sem, Nat.reduceBEq, c2, c3, c4, c8, c9, g9, g8, Nat.mul_one] <;> (repeat' first | rfl | constructor)) ?_
        clear h1 a w1
        intro a w1 h1
        have hE9 : (AV ++ [(Value.slice ao ln cp)]).map V.x = AV.map V.x ++ [.x (Value.slice ao ln cp)] := by simp
        rw [← hE9] at h1
        have h2 := h1.rename hMB (d := 6) (s := 49) (s' := 14) (z := 1) (len := q + i + 1) (es := (AV ++ [(Value.slice ao ln cp)]).map V.x) (G := []) rfl (by rw [flat_x, List.append_nil]; rfl) (fun e he => by obtain ⟨x, _, rfl⟩ := List.mem_map.1 he; rfl) (by rw [hE9, List.length_append, hAVl]; rfl) (st' := stOf [(1, .x (.func (.func cf) #[] lb)), (4, .ptr 4 0), (5, .x (.slice (some ⟨g0, 0, none⟩) 1 c0)), (8, .row 24 13 ks.length), (28, .row 24 13 ks.length), (29, .x (.int .i64 ((ks.length : Nat) : Int))), (30, .x (.int .i64 ((i : Nat) : Int)))] [(4, [.x (.int .i64 0), .x (.string ⟨#[]⟩), .x (.string ⟨#[]⟩), .x (.int .i64 0), .x (.int .i64 0), .x (.string ⟨#[]⟩), .x (.string ⟨#[]⟩), .x (.int .i64 0), .x (.int .i64 0), .x (.string ⟨#[]⟩), .x (.int .i64 0), .x (.int .i64 0), .sl true 0 [] none]), (24, BY)]) (le_stOf (by simp (decide := true) (maxDischargeDepth := 200) only [go_sem, Nat.reduceBEq] <;> (repeat' first | rfl | constructor)) (by simp (decide := true) (maxDischargeDepth := 200) only [go_sem, Nat.reduceBEq] <;> (repeat' first | rfl | constructor))) rfl (by simp (decide := true) (maxDischargeDepth := 200) only [go_sem]) (by decide)
        replace h2 := h2.le (st' := stOf [(1, .x (.func (.func cf) #[] lb)), (4, .ptr 4 0), (5, .x (.slice (some ⟨g0, 0, none⟩) 1 c0)), (6, .row 14 1 (q + i + 1)), (8, .row 24 13 ks.length), (28, .row 24 13 ks.length), (29, .x (.int .i64 ((ks.length : Nat) : Int))), (30, .x (.int .i64 ((i : Nat) : Int)))] [(4, [.x (.int .i64 0), .x (.string ⟨#[]⟩), .x (.string ⟨#[]⟩), .x (.int .i64 0), .x (.int .i64 0), .x (.string ⟨#[]⟩), .x (.string ⟨#[]⟩), .x (.int .i64 0), .x (.int .i64 0), .x (.string ⟨#[]⟩), .x (.int .i64 0), .x (.int .i64 0), .sl true 0 [] none]), (14, (AV ++ [Value.slice ao ln cp]).map V.x), (24, BY)]) (le_stOf (by simp (decide := true) (maxDischargeDepth := 200) only [go_sem, Nat.reduceBEq] <;> (repeat' first | rfl | constructor)) (by rw [flat_x]; exact (by simp (decide := true) (maxDischargeDepth := 200) only [go_sem, Nat.reduceBEq] <;> (repeat' first | rfl | constructor))))
        clear h1
        have c10 := count_up (i := i) (by simp only [List.length_cons] at hlen; omega)
        refine hold_T hE hm [(1, .x (.func (.func cf) #[] lb)), (4, .ptr 4 0), (5, .x (.slice (some ⟨g0, 0, none⟩) 1 c0)), (6, .row 14 1 (q + i + 1)), (8, .row 24 13 ks.length), (28, .row 24 13 ks.length), (29, .x (.int .i64 ((ks.length : Nat) : Int))), (30, .x (.int .i64 ((i + 1 : Nat) : Int)))] [(4, [.x (.int .i64 0), .x (.string ⟨#[]⟩), .x (.string ⟨#[]⟩), .x (.int .i64 0), .x (.int .i64 0), .x (.string ⟨#[]⟩), .x (.string ⟨#[]⟩), .x (.int .i64 0), .x (.int .i64 0), .x (.string ⟨#[]⟩), .x (.int .i64 0), .x (.int .i64 0), .sl true 0 [] none]), (14, (AV ++ [Value.slice ao ln cp]).map V.x), (24, BY)] (by kernel_rfl) (by kernel_rfl) h2 (by simp (decide := true) (maxDischargeDepth := 200) only [go_sem, Nat.reduceBEq, c10] <;> (repeat' first | rfl | constructor)) ?_
        clear h2 a w1
        intro a w1 h1
        refine ⟨(done ++ [(n0, (Value.slice ao ln cp))], todo, []), ⟨by rw [← hks]; simp, ?_⟩, by simp only [List.length_cons]; omega⟩
        simp only
        have e5 : (done ++ [(n0, ((Value.slice ao ln cp) : Value))]).length = i + 1 := by rw [List.length_append, hi]; rfl
        have e6 : A0 ++ (done ++ [(n0, ((Value.slice ao ln cp) : Value))]).map (fun p => V.x p.2) ++ [] = (AV ++ [(Value.slice ao ln cp)]).map V.x := by rw [List.map_append, ← List.append_assoc, hAV, hE9, List.append_nil]; rfl
        have e7 : doneC T (done ++ [(n0, ((Value.slice ao ln cp) : Value))]) ++ todoC todo = BY := by rw [doneC_snoc, hBY, hhd1]; rfl
        rw [e5, e6, e7, kidsP_snoc]
        exact h1
end Go.Proofs.Ytacclfepjpmfoaa

/- What Rename and Remove do with one node: the closures that they hand on. -/
namespace Go.Proofs.Ytacclfepjpmfoaa
open Go Go.RowKit
set_option linter.unusedSimpArgs false

def rn (f t s : ByteArray) : ByteArray := if s = f then t else s
def FRenamed : List V → Option V
  | [.agg [.x (.string s), .x (.int .i64 c), .x (.int .i64 r)], .x (.string f), .x (.string t)] => some (.agg [.x (.string (rn f t s)), .x (.int .i64 c), .x (.int .i64 r)])
  | _ => none
set_option maxRecDepth 100000 in
theorem renamed_fun : FunV 18 FRenamed := by
  refine fun_of_run (E := envOf []) (k := 3) (envOK_of _ trivial) (by kernel_rfl) Try.func18 rfl (fun a w => Try.call18 a w) Try.ntmps18 (by kernel_rfl) (by decide) (by decide) ?_
  intro us r hF hdat
  unfold FRenamed at hF
  split at hF
  case h_2 => cases hF
  rename_i s c r f t
  cases hF
  refine ⟨rfl, ?_⟩
  by_cases h : s = f
  · have e : rn f t s = t := if_pos h
    have d1 : decide (s = f) = true := decide_eq_true h
    rw [e]
    simp (decide := true) (maxDischargeDepth := 200) only [go_sem, d1, Try.results18]
  · have e : rn f t s = s := if_neg h
    have d1 : decide (s = f) = false := decide_eq_false h
    rw [e]
    simp (decide := true) (maxDischargeDepth := 200) only [go_sem, d1, Try.results18]


/-- A sheet is called otherwise. -/
def renT (f t : ByteArray) : Turn := ⟨fun h => if h.k = 2 then { h with cs := rn f t h.cs } else if h.k = 3 then { h with cs := rn f t h.cs, ts := rn f t h.ts } else h, fun _ => true⟩
/-- Does it read that sheet? -/
def isRef (h : Hd) (s : ByteArray) : Bool := (decide (h.k = 2) || decide (h.k = 3)) && decide (h.cs = s)
def badH : Hd := ⟨7, ⟨#[]⟩, ⟨#[]⟩, 0, 0, ⟨#[]⟩, ⟨#[]⟩, 0, 0, ⟨#[]⟩, 0, 0⟩
/-- A sheet is gone. -/
def remT (s : ByteArray) : Turn := ⟨fun h => if isRef h s = true then badH else h, fun h => !isRef h s⟩
theorem Turn.one_keep (T : Turn) {n : Nd} (h : T.keep n.hd = true) : nodeV (T.one n) = .agg (cellsH (T.th n.hd) (kidsV n)) := by
  cases n with
  | leaf h => rw [Turn.one, nodeV]; rfl
  | mk g l =>
    have h' : T.keep g = true := h
    rw [Turn.one, if_pos h', nodeV, nodesV_map]
    rfl
theorem Turn.one_drop (T : Turn) {n : Nd} (h : T.keep n.hd = false) : nodeV (T.one n) = .agg (cellsH (T.th n.hd) (.sl true 0 [] none)) := by
  cases n with
  | leaf h => rw [Turn.one, nodeV]; rfl
  | mk g l =>
    have h' : T.keep g = false := h
    rw [Turn.one, if_neg (by rw [h']; decide), nodeV]
    rfl
def encW3 (p : Nd × ByteArray × ByteArray) : List V := [nodeV p.1, .ip [.x (.string p.2.1)], .ip [.x (.string p.2.2)]]
def encW2 (p : Nd × ByteArray) : List V := [nodeV p.1, .ip [.x (.string p.2)]]
def GRen1 (p : Nd × ByteArray × ByteArray) : Option V := some (nodeV ((renT p.2.1 p.2.2).one p.1))
def GRem1 (p : Nd × ByteArray) : Option V := some (nodeV ((remT p.2).one p.1))
theorem encW3_inj (p q : Nd × ByteArray × ByteArray) (e : encW3 p = encW3 q) : p = q := by
  obtain ⟨a, b, c⟩ := p
  obtain ⟨a', b', c'⟩ := q
  simp only [encW3, List.cons.injEq, V.ip.injEq, V.x.injEq, Value.string.injEq, and_true] at e
  obtain ⟨h1, h2, h3⟩ := e
  rw [nodeV_inj _ _ h1, h2, h3]
theorem encW2_inj (p q : Nd × ByteArray) (e : encW2 p = encW2 q) : p = q := by
  obtain ⟨a, b⟩ := p
  obtain ⟨a', b'⟩ := q
  simp only [encW2, List.cons.injEq, V.ip.injEq, V.x.injEq, Value.string.injEq, and_true] at e
  obtain ⟨h1, h2⟩ := e
  rw [nodeV_inj _ _ h1, h2]
set_option maxHeartbeats 4000000 in
set_option maxRecDepth 100000 in
theorem rename1_fun : FunV 17 (FE encW3 GRen1) := by
  refine fun_of_run (E := envOf [(18, FRenamed)]) (k := 3) (envOK_of _ ⟨renamed_fun, trivial⟩) (by kernel_rfl) Try.func17 rfl (fun a w => Try.call17 a w) Try.ntmps17 (by kernel_rfl) (by decide) (by decide) ?_
  intro us r hF hdat
  obtain ⟨⟨nd, f, t⟩, hus, hG⟩ := FE_out hF
  clear hF
  subst hus
  have hF := hG
  clear hG
  cases hF
  clear hdat
  simp only [encW3]
  obtain ⟨k, op, nm, vk, vn, vs, cs, cc, cr, ts, tc, tr, l, nl, sz, hh, hl, hf, hs⟩ := node_cases nd
  have hk : kidsV nd = .sl nl sz (l.map nodeV) none := (cellsH_inj (h := nd.hd) (h' := ⟨k, op, nm, vk, vn, vs, cs, cc, cr, ts, tc, tr⟩) (V.agg.inj ((nodeV_eq nd).symm.trans hf))).2
  rw [(renT f t).one_keep rfl, hk, hh, hf]
  refine ⟨rfl, ?_⟩
  by_cases h2 : k = 2
  · subst h2
    have e : (renT f t).th ⟨2, op, nm, vk, vn, vs, cs, cc, cr, ts, tc, tr⟩ = ⟨2, op, nm, vk, vn, vs, rn f t cs, cc, cr, ts, tc, tr⟩ := rfl
    rw [e]
    simp (decide := true) (maxDischargeDepth := 200) only [go_sem, FRenamed, cellsH, Try.results17]
  · have d2 := decide_eq_false h2
    by_cases h3 : k = 3
    · subst h3
      have e : (renT f t).th ⟨3, op, nm, vk, vn, vs, cs, cc, cr, ts, tc, tr⟩ = ⟨3, op, nm, vk, vn, vs, rn f t cs, cc, cr, rn f t ts, tc, tr⟩ := rfl
      rw [e]
      simp (decide := true) (maxDischargeDepth := 200) only [go_sem, FRenamed, cellsH, Try.results17]
    · have d3 := decide_eq_false h3
      have e : (renT f t).th ⟨k, op, nm, vk, vn, vs, cs, cc, cr, ts, tc, tr⟩ = ⟨k, op, nm, vk, vn, vs, cs, cc, cr, ts, tc, tr⟩ := by simp only [renT, if_neg h2, if_neg h3]
      rw [e]
      simp (decide := true) (maxDischargeDepth := 200) only [go_sem, FRenamed, cellsH, d2, d3, Try.results17]

set_option maxHeartbeats 4000000 in
set_option maxRecDepth 100000 in
theorem remove1_fun : FunV 20 (FE encW2 GRem1) := by
  refine fun_of_run (E := envOf []) (k := 2) (envOK_of _ trivial) (by kernel_rfl) Try.func20 rfl (fun a w => Try.call20 a w) Try.ntmps20 (by kernel_rfl) (by decide) (by decide) ?_
  intro us r hF hdat
  obtain ⟨⟨nd, f⟩, hus, hG⟩ := FE_out hF
  clear hF
  subst hus
  have hF := hG
  clear hG
  cases hF
  clear hdat
  simp only [encW2]
  obtain ⟨k, op, nm, vk, vn, vs, cs, cc, cr, ts, tc, tr, l, nl, sz, hh, hl, hf, hs⟩ := node_cases nd
  have hk : kidsV nd = .sl nl sz (l.map nodeV) none := (cellsH_inj (h := nd.hd) (h' := ⟨k, op, nm, vk, vn, vs, cs, cc, cr, ts, tc, tr⟩) (V.agg.inj ((nodeV_eq nd).symm.trans hf))).2
  rw [hf]
  refine ⟨rfl, ?_⟩
  have hyes : isRef nd.hd f = true → nodeV ((remT f).one nd) = .agg (cellsH badH (.sl true 0 [] none)) := fun h => by
    rw [(remT f).one_drop (by show (!isRef nd.hd f) = false; rw [h]; rfl)]
    show V.agg (cellsH (if isRef nd.hd f = true then badH else nd.hd) _) = _
    rw [if_pos h]
  have hno : isRef nd.hd f = false → nodeV ((remT f).one nd) = .agg [.x (.int .i64 k), .x (.string op), .x (.string nm), .x (.int .i64 vk), .x (.int .i64 vn), .x (.string vs), .x (.string cs), .x (.int .i64 cc), .x (.int .i64 cr), .x (.string ts), .x (.int .i64 tc), .x (.int .i64 tr), .sl nl sz (l.map nodeV) none] := fun h => by
    rw [(remT f).one_keep (by show (!isRef nd.hd f) = true; rw [h]; rfl)]
    show V.agg (cellsH (if isRef nd.hd f = true then badH else nd.hd) _) = _
    rw [if_neg (by rw [h]; decide), hk, hh]
    rfl
  rw [hh] at hyes hno
  by_cases h2 : k = 2
  · subst h2
    by_cases hc : cs = f
    · have dc := decide_eq_true hc
      rw [hyes (by simp [isRef, hc])]
      simp (decide := true) (maxDischargeDepth := 200) only [go_sem, cellsH, badH, dc, Try.results20]
    · have dc := decide_eq_false hc
      rw [hno (by simp [isRef, hc])]
      simp (decide := true) (maxDischargeDepth := 200) only [go_sem, dc, Try.results20]
  · have d2 := decide_eq_false h2
    by_cases h3 : k = 3
    · subst h3
      by_cases hc : cs = f
      · have dc := decide_eq_true hc
        rw [hyes (by simp [isRef, hc])]
        simp (decide := true) (maxDischargeDepth := 200) only [go_sem, cellsH, badH, dc, d2, Try.results20]
      · have dc := decide_eq_false hc
        rw [hno (by simp [isRef, hc])]
        simp (decide := true) (maxDischargeDepth := 200) only [go_sem, dc, d2, Try.results20]
    · have d3 := decide_eq_false h3
      rw [hno (by simp [isRef, h2, h3])]
      simp (decide := true) (maxDischargeDepth := 200) only [go_sem, d2, d3, Try.results20]

end Go.Proofs.Ytacclfepjpmfoaa

/- rewrite.Rename, rewrite.Remove. -/
namespace Go.Proofs.Ytacclfepjpmfoaa
open Go Go.RowKit
set_option linter.unusedSimpArgs false

/-- A variable of one cell that is written no more. -/
theorem box_ip {m m' : Lim} {w : World} {g : Nat} {v : Value} (h : BoxAt m w g [.x v]) (hm : m' g = none) : Rd m' w (.pointer (some ⟨g, 0, none⟩)) (.ip [.x v]) := by
  obtain ⟨_, vals, ty, xs, rest, hh, hx, hr⟩ := h
  have e : xs = [v] := by
    match xs, hr with
    | [y], hr => rw [Rd.x_iff.1 hr.1]
    | _ :: _ :: _, hr => exact hr.2.elim
  subst e
  refine .ip g 0 [.x v] (fun _ => v) (heap_lt hh) (fun k hk => ?_) (fun fr hf => by rw [hm] at hf; cases hf) (fun k d hd => ?_)
  · have : k = 0 := by simpa using hk
    subst this
    rw [Box.cell hh, ← Array.getElem?_toList, hx]
    rfl
  · have : k = 0 := by have := lt_of_some hd; simpa using this
    subst this
    cases hd
    exact .x _
def encRn (p : Nd × ByteArray × ByteArray) : List V := [nodeV p.1, .x (.string p.2.1), .x (.string p.2.2)]
def encRm (p : Nd × ByteArray) : List V := [nodeV p.1, .x (.string p.2)]
theorem encRn_inj (p q : Nd × ByteArray × ByteArray) (e : encRn p = encRn q) : p = q := by
  obtain ⟨a, b, c⟩ := p
  obtain ⟨a', b', c'⟩ := q
  simp only [encRn, List.cons.injEq, V.x.injEq, Value.string.injEq, and_true] at e
  obtain ⟨h1, h2, h3⟩ := e
  rw [nodeV_inj _ _ h1, h2, h3]
theorem encRm_inj (p q : Nd × ByteArray) (e : encRm p = encRm q) : p = q := by
  obtain ⟨a, b⟩ := p
  obtain ⟨a', b'⟩ := q
  simp only [encRm, List.cons.injEq, V.x.injEq, Value.string.injEq, and_true] at e
  obtain ⟨h1, h2⟩ := e
  rw [nodeV_inj _ _ h1, h2]
/-- What may be turned: not too much of it, no text too long. -/
def OkRn (n : Nd) (f t : ByteArray) : Prop := cnt n ≤ 400 ∧ good n ∧ f.size ≤ 281474976710656 ∧ t.size ≤ 281474976710656
open Classical in
noncomputable def GRn (p : Nd × ByteArray × ByteArray) : Option V := if OkRn p.1 p.2.1 p.2.2 then some (nodeV ((renT p.2.1 p.2.2).all p.1)) else none
open Classical in
noncomputable def GRm (p : Nd × ByteArray) : Option V := if OkRn p.1 p.2 ⟨#[]⟩ then some (nodeV ((remT p.2).all p.1)) else none
theorem renT_texts {f t : ByteArray} (ht : t.size ≤ 281474976710656) (h : Hd) (hh : TextsOK h) : TextsOK ((renT f t).th h) := by
  obtain ⟨h1, h2, h3, h4, h5⟩ := hh
  have key : ∀ s : ByteArray, s.size ≤ 281474976710656 → (rn f t s).size ≤ 281474976710656 := fun s hs => by
    unfold rn
    split
    · exact ht
    · exact hs
  unfold renT
  simp only
  split
  · exact ⟨h1, h2, h3, key _ h4, h5⟩
  · split
    · exact ⟨h1, h2, h3, key _ h4, key _ h5⟩
    · exact ⟨h1, h2, h3, h4, h5⟩
theorem remT_texts {f : ByteArray} (h : Hd) (hh : TextsOK h) : TextsOK ((remT f).th h) := by
  unfold remT
  simp only
  split
  · refine ⟨?_, ?_, ?_, ?_, ?_⟩ <;> exact Nat.zero_le _
  · exact hh
set_option maxHeartbeats 8000000 in
set_option maxRecDepth 100000 in
theorem rename_fun : FunV 8 (FE encRn GRn) := by
  refine ⟨fun a w => Try.call8 a w, fun m w us0 us r hF hdat hr hj hg => ?_⟩
  obtain ⟨⟨nd, f, t⟩, hus, hG⟩ := FE_out hF
  clear hF
  subst hus
  unfold GRn at hG
  split at hG
  case isFalse => cases hG
  rename_i hok
  cases hG
  obtain ⟨hcnt, hgood, hft⟩ := hok
  simp only at hcnt hgood hft
  obtain ⟨hf1, ht1⟩ := hft
  have hE : EnvOK (envOf []) := envOK_of _ trivial
  have hm : (envOf []).P.follows .mixedOrders = true := by kernel_rfl
  have hMB : ∀ s, (envOf []).MB s = false := fun _ => rfl
  obtain ⟨k, op, nm, vk, vn, vs, cs, cc, cr, ts, tc, tr, ll, nl, sz, hh, hl, hf, hs⟩ := node_cases nd
  simp only [encRn] at hr
  rw [hf] at hr
  refine (calls_of_hold (E := (envOf [])) (n := 10) (sz := 13) (us := [.agg [.x (.int .i64 k), .x (.string op), .x (.string nm), .x (.int .i64 vk), .x (.int .i64 vn), .x (.string vs), .x (.string cs), .x (.int .i64 cc), .x (.int .i64 cr), .x (.string ts), .x (.int .i64 tc), .x (.int .i64 tr), .sl nl sz (ll.map nodeV) none], .x (.string f), .x (.string t)]) (k := 3) (Kn := Kno.top) (R := fun v w' => ∃ m', Rd m' w' v (nodeV ((renT f t).all nd)) ∧ Step (fun _ => False) m w m' w') Try.func8 rfl Try.ntmps8 (by decide) (by decide) hr (by rfl) rfl hj (fun _ => .undef _) trivial ?_).mono (fun e w' ⟨v, e1, m', h1, h2⟩ => ⟨v, m', e1, h1, h2.below (fun _ _ h => h), fun k hk => (h2.same k hk (fun h => h)).2⟩)
  intro a h0
  refine wpIn_seq (hold_T hE hm [(3, .ptr 3 0), (4, .ptr 4 0), (5, .ptr 5 0), (6, .ptr 6 0)] [(3, [.x (.int .i64 k), .x (.string op), .x (.string nm), .x (.int .i64 vk), .x (.int .i64 vn), .x (.string vs), .x (.string cs), .x (.int .i64 cc), .x (.int .i64 cr), .x (.string ts), .x (.int .i64 tc), .x (.int .i64 tr), .sl nl sz (ll.map nodeV) none]), (4, [.x (.string f)]), (5, [.x (.string t)]), (6, [.x (.int .i64 0), .x (.string ⟨#[]⟩), .x (.string ⟨#[]⟩), .x (.int .i64 0), .x (.int .i64 0), .x (.string ⟨#[]⟩), .x (.string ⟨#[]⟩), .x (.int .i64 0), .x (.int .i64 0), .x (.string ⟨#[]⟩), .x (.int .i64 0), .x (.int .i64 0), .sl true 0 [] none])] (by kernel_rfl) (by kernel_rfl) h0 (by simp (decide := true) (maxDischargeDepth := 200) only [go_sem, Nat.reduceBEq] <;> (repeat' first | rfl | constructor)) ?_)
  clear h0 a
  intro a w1 h1
  refine wpIn_seq (wpIn_region ?_)
  refine hold_S hE 0 1 [(4, .ptr 4 0), (5, .ptr 5 0), (6, .ptr 6 0), (7, .agg [.x (.int .i64 k), .x (.string op), .x (.string nm), .x (.int .i64 vk), .x (.int .i64 vn), .x (.string vs), .x (.string cs), .x (.int .i64 cc), .x (.int .i64 cr), .x (.string ts), .x (.int .i64 tc), .x (.int .i64 tr), .sl nl sz (ll.map nodeV) none])] [(4, [.x (.string f)]), (5, [.x (.string t)]), (6, [.x (.int .i64 0), .x (.string ⟨#[]⟩), .x (.string ⟨#[]⟩), .x (.int .i64 0), .x (.int .i64 0), .x (.string ⟨#[]⟩), .x (.string ⟨#[]⟩), .x (.int .i64 0), .x (.int .i64 0), .x (.string ⟨#[]⟩), .x (.int .i64 0), .x (.int .i64 0), .sl true 0 [] none])] [1, 2, 3] (by decide) (by kernel_rfl) (by kernel_rfl) h1 (by simp (decide := true) (maxDischargeDepth := 200) only [go_sem, Nat.reduceBEq] <;> (repeat' first | rfl | constructor)) ?_
  clear h1 a w1
  intro a w1 h1
  obtain ⟨m1, O, gs, q1, q2, q3, q4, q5, q6, q7⟩ := h1
  cases q2
  obtain ⟨g0, o0, k0, b0, p0, _, n0⟩ := q1.shed hMB (s := 4) (cs := [.x (.string f)]) rfl (st' := stOf [(5, .ptr 5 0), (6, .ptr 6 0), (7, .agg [.x (.int .i64 k), .x (.string op), .x (.string nm), .x (.int .i64 vk), .x (.int .i64 vn), .x (.string vs), .x (.string cs), .x (.int .i64 cc), .x (.int .i64 cr), .x (.string ts), .x (.int .i64 tc), .x (.int .i64 tr), .sl nl sz (ll.map nodeV) none])] [(5, [.x (.string t)]), (6, [.x (.int .i64 0), .x (.string ⟨#[]⟩), .x (.string ⟨#[]⟩), .x (.int .i64 0), .x (.int .i64 0), .x (.string ⟨#[]⟩), .x (.string ⟨#[]⟩), .x (.int .i64 0), .x (.int .i64 0), .x (.string ⟨#[]⟩), .x (.int .i64 0), .x (.int .i64 0), .sl true 0 [] none])]) (le_stOf (by simp (decide := true) (maxDischargeDepth := 200) only [go_sem, Nat.reduceBEq] <;> (repeat' first | rfl | constructor)) (by simp (decide := true) (maxDischargeDepth := 200) only [go_sem, Nat.reduceBEq] <;> (repeat' first | rfl | constructor))) rfl
  replace p0 := p0 4 rfl
  obtain ⟨g1, o1, k1, b1, p1, _, n1⟩ := n0.shed hMB (s := 5) (cs := [.x (.string t)]) rfl (st' := stOf [(6, .ptr 6 0), (7, .agg [.x (.int .i64 k), .x (.string op), .x (.string nm), .x (.int .i64 vk), .x (.int .i64 vn), .x (.string vs), .x (.string cs), .x (.int .i64 cc), .x (.int .i64 cr), .x (.string ts), .x (.int .i64 tc), .x (.int .i64 tr), .sl nl sz (ll.map nodeV) none])] [(6, [.x (.int .i64 0), .x (.string ⟨#[]⟩), .x (.string ⟨#[]⟩), .x (.int .i64 0), .x (.int .i64 0), .x (.string ⟨#[]⟩), .x (.string ⟨#[]⟩), .x (.int .i64 0), .x (.int .i64 0), .x (.string ⟨#[]⟩), .x (.int .i64 0), .x (.int .i64 0), .sl true 0 [] none])]) (le_stOf (by simp (decide := true) (maxDischargeDepth := 200) only [go_sem, Nat.reduceBEq] <;> (repeat' first | rfl | constructor)) (by simp (decide := true) (maxDischargeDepth := 200) only [go_sem, Nat.reduceBEq] <;> (repeat' first | rfl | constructor))) rfl
  replace p1 := p1 5 rfl
  have o1' := o1.1
  have z0 := n1.other (Step.freeze g0 m1 w1) (fun k hk e => hk.1.2 e) n1.J
  have z1 := z0.other (Step.freeze g1 (upd m1 g0 none) w1) (fun k hk e => hk.2 e) z0.J
  have hst : Step (fun _ => False) m w (upd (upd m1 g0 none) g1 none) w1 := ((q5.next (Step.freeze g0 m1 w1) (fun i hi e => absurd hi (Nat.not_lt.2 (e ▸ q4 g0 o0)))).next (Step.freeze g1 (upd m1 g0 none) w1) (fun i hi e => absurd hi (Nat.not_lt.2 (e ▸ q4 g1 o1'))))
  have i0 := box_ip (m' := (upd (upd m1 g0 none) g1 none)) b0 (by by_cases e : g0 = g1; exact (by rw [e]; exact upd_same _ _ _); exact (by rw [upd_ne _ _ e]; exact upd_same _ _ _))
  have i1 := box_ip (m' := (upd (upd m1 g0 none) g1 none)) b1 (upd_same _ _ _)
  refine hold_raw (i := 1) (rest := [2, 3]) (d := 8) rfl (by intro c e; cases e) rfl rfl (v := .func (.func 17) #[] #[.pointer (some ⟨g0, 0, none⟩), .pointer (some ⟨g1, 0, none⟩)]) (w' := w1) (by
    simp only [execOp, Sem.run_bind, Instr.makeFunc, Sem.run_pure, Result.andThen_ok]
    have e0 : a.eval (.tmp 4) = .pointer (some ⟨g0, 0, none⟩) := p0
    have e1 : a.eval (.tmp 5) = .pointer (some ⟨g1, 0, none⟩) := p1
    simp [e0, e1]) ?_
  have hp := z1.put (d := 8) (by decide) (v := .func (.func 17) #[] #[.pointer (some ⟨g0, 0, none⟩), .pointer (some ⟨g1, 0, none⟩)]) (u := .x (.func (.func 17) #[] #[.pointer (some ⟨g0, 0, none⟩), .pointer (some ⟨g1, 0, none⟩)])) (.x _)
  rw [bare_x] at hp
  generalize a.put (some 8) (.func (.func 17) #[] #[.pointer (some ⟨g0, 0, none⟩), .pointer (some ⟨g1, 0, none⟩)]) = a1 at hp ⊢
  have h7 : Rd (upd (upd m1 g0 none) g1 none) w1 (a1.eval (.tmp 7)) (nodeV nd) := by rw [hf]; exact runOf_read0 hp 7 rfl rfl
  have h8 : a1.eval (.tmp 8) = .func (.func 17) #[] #[.pointer (some ⟨g0, 0, none⟩), .pointer (some ⟨g1, 0, none⟩)] := hp.val 8 rfl
  refine hold_call (i := 2) (rest := [3]) (d := 9) (c := .func 16) (f := 16) (lb := #[]) rfl rfl rfl rfl rfl (fun a w => Try.call16 a w) (R := fun v3 w3 => ∃ m', Step (fun _ => False) (upd (upd m1 g0 none) g1 none) w1 m' w3 ∧ Glob w3 ∧ Rd m' w3 v3 (nodeV ((renT f t).all nd))) (by
    rw [show Array.map a1.eval #[Operand.tmp 7, Operand.tmp 8] ++ #[] = #[a1.eval (.tmp 7), a1.eval (.tmp 8)] from by simp, h8]
    refine (turned_calls (renT f t) (renT_texts ht1) (fun a w => Try.call17 a w) h7 hgood hcnt hp.J ?_).mono (fun e w3 ⟨v3, e1, h2⟩ => ⟨v3, e1, h2⟩)
    intro m' w' hs' hj' v' n' hv' _
    rw [show #[v'] ++ #[.pointer (some ⟨g0, 0, none⟩), .pointer (some ⟨g1, 0, none⟩)] = #[v', .pointer (some ⟨g0, 0, none⟩), .pointer (some ⟨g1, 0, none⟩)] from by simp]
    refine (rename1_fun.2 m' w' #[v', .pointer (some ⟨g0, 0, none⟩), .pointer (some ⟨g1, 0, none⟩)] (encW3 (n', f, t)) _ (FE_at encW3_inj _ (n', f, t)) (by simp only [encW3, List.all_cons, List.all_nil, node_dat]; rfl) ⟨hv', i0.mono hs'.ext, i1.mono hs'.ext, trivial⟩ hj' (fun _ => .undef _)).mono ?_
    rintro e w2 ⟨v2, m2, e1, r1, r2, r3⟩
    exact ⟨v2, e1, m2, Step.of_below r2 r3, hE.keep [] _ _ (fun x hx => by cases hx) hj' ((Step.of_below (S := fun _ => False) r2 r3).bel (fun k _ h => h.elim)), r1⟩) ?_
  rintro v3 w3 ⟨m3, s1, s2, s3⟩
  obtain ⟨k', op', nm', vk', vn', vs', cs', cc', cr', ts', tc', tr', ll', nl', sz', hh', hl', hf', hs'⟩ := node_cases ((renT f t).all nd)
  rw [hf'] at s3
  have h1 := Hold.after (E := (envOf [])) (n := 10) (sz := 13) (B := ⟨Kno.top, fun _ => true, #[], m, w⟩) (P := []) (gs := []) (Q := []) (gs2 := []) (d := 9) hp .nil (fun g hg => by cases hg) (fun k hk => q4 k hk.1.1) hst trivial (fun i hi => by cases hi) s1 s2 (by decide) rfl s3 .nil (fun g hg => by cases hg)
  generalize a1.put (some 9) v3 = a at h1 ⊢
  refine hold_S hE 3 1 [(6, .ptr 6 0)] [(6, [.x (.int .i64 k'), .x (.string op'), .x (.string nm'), .x (.int .i64 vk'), .x (.int .i64 vn'), .x (.string vs'), .x (.string cs'), .x (.int .i64 cc'), .x (.int .i64 cr'), .x (.string ts'), .x (.int .i64 tc'), .x (.int .i64 tr'), .sl nl' sz' (ll'.map nodeV) none])] [] (by decide) (by kernel_rfl) (by kernel_rfl) h1 (by simp (decide := true) (maxDischargeDepth := 200) only [go_sem, Nat.reduceBEq] <;> (repeat' first | rfl | constructor)) ?_
  clear h1 a
  intro a w4 h4
  refine wpIn_ret ⟨.inr rfl, _, _, _, _, h4, rfl, rfl, (by simp (decide := true) (maxDischargeDepth := 200) only [go_sem, Try.results8]; rfl), ?_⟩
  intro v' m' gs' p1 p2 p3 p4 p5 p6
  rw [hf']
  exact ⟨m', p1, p4⟩

set_option maxHeartbeats 8000000 in
set_option maxRecDepth 100000 in
theorem remove_fun : FunV 10 (FE encRm GRm) := by
  refine ⟨fun a w => Try.call10 a w, fun m w us0 us r hF hdat hr hj hg => ?_⟩
  obtain ⟨⟨nd, f⟩, hus, hG⟩ := FE_out hF
  clear hF
  subst hus
  unfold GRm at hG
  split at hG
  case isFalse => cases hG
  rename_i hok
  cases hG
  obtain ⟨hcnt, hgood, hft⟩ := hok
  simp only at hcnt hgood hft
  obtain ⟨hf1, ht1⟩ := hft
  have hE : EnvOK (envOf []) := envOK_of _ trivial
  have hm : (envOf []).P.follows .mixedOrders = true := by kernel_rfl
  have hMB : ∀ s, (envOf []).MB s = false := fun _ => rfl
  obtain ⟨k, op, nm, vk, vn, vs, cs, cc, cr, ts, tc, tr, ll, nl, sz, hh, hl, hf, hs⟩ := node_cases nd
  simp only [encRm] at hr
  rw [hf] at hr
  refine (calls_of_hold (E := (envOf [])) (n := 8) (sz := 13) (us := [.agg [.x (.int .i64 k), .x (.string op), .x (.string nm), .x (.int .i64 vk), .x (.int .i64 vn), .x (.string vs), .x (.string cs), .x (.int .i64 cc), .x (.int .i64 cr), .x (.string ts), .x (.int .i64 tc), .x (.int .i64 tr), .sl nl sz (ll.map nodeV) none], .x (.string f)]) (k := 2) (Kn := Kno.top) (R := fun v w' => ∃ m', Rd m' w' v (nodeV ((remT f).all nd)) ∧ Step (fun _ => False) m w m' w') Try.func10 rfl Try.ntmps10 (by decide) (by decide) hr (by rfl) rfl hj (fun _ => .undef _) trivial ?_).mono (fun e w' ⟨v, e1, m', h1, h2⟩ => ⟨v, m', e1, h1, h2.below (fun _ _ h => h), fun k hk => (h2.same k hk (fun h => h)).2⟩)
  intro a h0
  refine wpIn_seq (hold_T hE hm [(2, .ptr 2 0), (3, .ptr 3 0), (4, .ptr 4 0)] [(2, [.x (.int .i64 k), .x (.string op), .x (.string nm), .x (.int .i64 vk), .x (.int .i64 vn), .x (.string vs), .x (.string cs), .x (.int .i64 cc), .x (.int .i64 cr), .x (.string ts), .x (.int .i64 tc), .x (.int .i64 tr), .sl nl sz (ll.map nodeV) none]), (3, [.x (.string f)]), (4, [.x (.int .i64 0), .x (.string ⟨#[]⟩), .x (.string ⟨#[]⟩), .x (.int .i64 0), .x (.int .i64 0), .x (.string ⟨#[]⟩), .x (.string ⟨#[]⟩), .x (.int .i64 0), .x (.int .i64 0), .x (.string ⟨#[]⟩), .x (.int .i64 0), .x (.int .i64 0), .sl true 0 [] none])] (by kernel_rfl) (by kernel_rfl) h0 (by simp (decide := true) (maxDischargeDepth := 200) only [go_sem, Nat.reduceBEq] <;> (repeat' first | rfl | constructor)) ?_)
  clear h0 a
  intro a w1 h1
  refine wpIn_seq (wpIn_region ?_)
  refine hold_S hE 0 1 [(3, .ptr 3 0), (4, .ptr 4 0), (5, .agg [.x (.int .i64 k), .x (.string op), .x (.string nm), .x (.int .i64 vk), .x (.int .i64 vn), .x (.string vs), .x (.string cs), .x (.int .i64 cc), .x (.int .i64 cr), .x (.string ts), .x (.int .i64 tc), .x (.int .i64 tr), .sl nl sz (ll.map nodeV) none])] [(3, [.x (.string f)]), (4, [.x (.int .i64 0), .x (.string ⟨#[]⟩), .x (.string ⟨#[]⟩), .x (.int .i64 0), .x (.int .i64 0), .x (.string ⟨#[]⟩), .x (.string ⟨#[]⟩), .x (.int .i64 0), .x (.int .i64 0), .x (.string ⟨#[]⟩), .x (.int .i64 0), .x (.int .i64 0), .sl true 0 [] none])] [1, 2, 3] (by decide) (by kernel_rfl) (by kernel_rfl) h1 (by simp (decide := true) (maxDischargeDepth := 200) only [go_sem, Nat.reduceBEq] <;> (repeat' first | rfl | constructor)) ?_
  clear h1 a w1
  intro a w1 h1
  obtain ⟨m1, O, gs, q1, q2, q3, q4, q5, q6, q7⟩ := h1
  cases q2
  obtain ⟨g0, o0, k0, b0, p0, _, n0⟩ := q1.shed hMB (s := 3) (cs := [.x (.string f)]) rfl (st' := stOf [(4, .ptr 4 0), (5, .agg [.x (.int .i64 k), .x (.string op), .x (.string nm), .x (.int .i64 vk), .x (.int .i64 vn), .x (.string vs), .x (.string cs), .x (.int .i64 cc), .x (.int .i64 cr), .x (.string ts), .x (.int .i64 tc), .x (.int .i64 tr), .sl nl sz (ll.map nodeV) none])] [(4, [.x (.int .i64 0), .x (.string ⟨#[]⟩), .x (.string ⟨#[]⟩), .x (.int .i64 0), .x (.int .i64 0), .x (.string ⟨#[]⟩), .x (.string ⟨#[]⟩), .x (.int .i64 0), .x (.int .i64 0), .x (.string ⟨#[]⟩), .x (.int .i64 0), .x (.int .i64 0), .sl true 0 [] none])]) (le_stOf (by simp (decide := true) (maxDischargeDepth := 200) only [go_sem, Nat.reduceBEq] <;> (repeat' first | rfl | constructor)) (by simp (decide := true) (maxDischargeDepth := 200) only [go_sem, Nat.reduceBEq] <;> (repeat' first | rfl | constructor))) rfl
  replace p0 := p0 3 rfl
  have z0 := n0.other (Step.freeze g0 m1 w1) (fun k hk e => hk.2 e) n0.J
  have hst : Step (fun _ => False) m w (upd m1 g0 none) w1 := (q5.next (Step.freeze g0 m1 w1) (fun i hi e => absurd hi (Nat.not_lt.2 (e ▸ q4 g0 o0))))
  have i0 := box_ip (m' := (upd m1 g0 none)) b0 (upd_same _ _ _)
  refine hold_raw (i := 1) (rest := [2, 3]) (d := 6) rfl (by intro c e; cases e) rfl rfl (v := .func (.func 20) #[] #[.pointer (some ⟨g0, 0, none⟩)]) (w' := w1) (by
    simp only [execOp, Sem.run_bind, Instr.makeFunc, Sem.run_pure, Result.andThen_ok]
    have e0 : a.eval (.tmp 3) = .pointer (some ⟨g0, 0, none⟩) := p0
    simp [e0]) ?_
  have hp := z0.put (d := 6) (by decide) (v := .func (.func 20) #[] #[.pointer (some ⟨g0, 0, none⟩)]) (u := .x (.func (.func 20) #[] #[.pointer (some ⟨g0, 0, none⟩)])) (.x _)
  rw [bare_x] at hp
  generalize a.put (some 6) (.func (.func 20) #[] #[.pointer (some ⟨g0, 0, none⟩)]) = a1 at hp ⊢
  have h7 : Rd (upd m1 g0 none) w1 (a1.eval (.tmp 5)) (nodeV nd) := by rw [hf]; exact runOf_read0 hp 5 rfl rfl
  have h8 : a1.eval (.tmp 6) = .func (.func 20) #[] #[.pointer (some ⟨g0, 0, none⟩)] := hp.val 6 rfl
  refine hold_call (i := 2) (rest := [3]) (d := 7) (c := .func 16) (f := 16) (lb := #[]) rfl rfl rfl rfl rfl (fun a w => Try.call16 a w) (R := fun v3 w3 => ∃ m', Step (fun _ => False) (upd m1 g0 none) w1 m' w3 ∧ Glob w3 ∧ Rd m' w3 v3 (nodeV ((remT f).all nd))) (by
    rw [show Array.map a1.eval #[Operand.tmp 5, Operand.tmp 6] ++ #[] = #[a1.eval (.tmp 5), a1.eval (.tmp 6)] from by simp, h8]
    refine (turned_calls (remT f) remT_texts (fun a w => Try.call20 a w) h7 hgood hcnt hp.J ?_).mono (fun e w3 ⟨v3, e1, h2⟩ => ⟨v3, e1, h2⟩)
    intro m' w' hs' hj' v' n' hv' _
    rw [show #[v'] ++ #[.pointer (some ⟨g0, 0, none⟩)] = #[v', .pointer (some ⟨g0, 0, none⟩)] from by simp]
    refine (remove1_fun.2 m' w' #[v', .pointer (some ⟨g0, 0, none⟩)] (encW2 (n', f)) _ (FE_at encW2_inj _ (n', f)) (by simp only [encW2, List.all_cons, List.all_nil, node_dat]; rfl) ⟨hv', i0.mono hs'.ext, trivial⟩ hj' (fun _ => .undef _)).mono ?_
    rintro e w2 ⟨v2, m2, e1, r1, r2, r3⟩
    exact ⟨v2, e1, m2, Step.of_below r2 r3, hE.keep [] _ _ (fun x hx => by cases hx) hj' ((Step.of_below (S := fun _ => False) r2 r3).bel (fun k _ h => h.elim)), r1⟩) ?_
  rintro v3 w3 ⟨m3, s1, s2, s3⟩
  obtain ⟨k', op', nm', vk', vn', vs', cs', cc', cr', ts', tc', tr', ll', nl', sz', hh', hl', hf', hs'⟩ := node_cases ((remT f).all nd)
  rw [hf'] at s3
  have h1 := Hold.after (E := (envOf [])) (n := 8) (sz := 13) (B := ⟨Kno.top, fun _ => true, #[], m, w⟩) (P := []) (gs := []) (Q := []) (gs2 := []) (d := 7) hp .nil (fun g hg => by cases hg) (fun k hk => q4 k hk.1) hst trivial (fun i hi => by cases hi) s1 s2 (by decide) rfl s3 .nil (fun g hg => by cases hg)
  generalize a1.put (some 7) v3 = a at h1 ⊢
  refine hold_S hE 3 1 [(4, .ptr 4 0)] [(4, [.x (.int .i64 k'), .x (.string op'), .x (.string nm'), .x (.int .i64 vk'), .x (.int .i64 vn'), .x (.string vs'), .x (.string cs'), .x (.int .i64 cc'), .x (.int .i64 cr'), .x (.string ts'), .x (.int .i64 tc'), .x (.int .i64 tr'), .sl nl' sz' (ll'.map nodeV) none])] [] (by decide) (by kernel_rfl) (by kernel_rfl) h1 (by simp (decide := true) (maxDischargeDepth := 200) only [go_sem, Nat.reduceBEq] <;> (repeat' first | rfl | constructor)) ?_
  clear h1 a
  intro a w4 h4
  refine wpIn_ret ⟨.inr rfl, _, _, _, _, h4, rfl, rfl, (by simp (decide := true) (maxDischargeDepth := 200) only [go_sem, Try.results10]; rfl), ?_⟩
  intro v' m' gs' p1 p2 p3 p4 p5 p6
  rw [hf']
  exact ⟨m', p1, p4⟩

end Go.Proofs.Ytacclfepjpmfoaa
