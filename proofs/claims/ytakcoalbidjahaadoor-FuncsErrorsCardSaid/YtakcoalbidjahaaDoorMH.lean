/- Rows that the call made and that its run does not know at present: kept beside the run; taken up to be written, and put down again. No program is named here. -/
import Derived.Test.YtakcoalbidjahaaDoorMI
namespace Go.Proofs.YtakcoalbidjahaaDoor
open Go Go.RowKit

/-- A row in a block of its own, that nobody's reading leans on. -/
structure Loose (K : Nat) (sz : Nat) (m : Lim) (w : World) (v : Value) (es : List V) (g : Nat) : Prop where
  box : BoxAt m w g (es.flatMap V.cells)
  low : K ≤ g
  is : ∃ (cap : Nat) (cur : Array Value) (ty : TyAt cur.size), v = .slice (some ⟨g, 0, none⟩) es.length cap ∧ w.heap[g]? = some (.cells cur ty.ty ty.fz) ∧ es.length ≤ cap ∧ cur.size = cap * sz
/-- Several, each in a block of its own; or of nothing. -/
inductive Bed (K : Nat) (sz : Nat) (m : Lim) (w : World) : List (Value × List V) → List Nat → Prop
  | nil : Bed K sz m w [] []
  | no {l : List (Value × List V)} {gs : List Nat} (h : Bed K sz m w l gs) : Bed K sz m w ((.slice none 0 0, []) :: l) gs
  | row {v : Value} {es : List V} {g : Nat} {l : List (Value × List V)} {gs : List Nat} (hne : es ≠ []) (h1 : Loose K sz m w v es g) (h2 : g ∉ gs) (h : Bed K sz m w l gs) : Bed K sz m w ((v, es) :: l) (g :: gs)
section
variable {E : Env} {n sz : Nat} {D : List Deferred} {m m' ms : Lim} {ws w w' : World} {st : St} {a : Act} {O S : Nat → Prop} {r : Option Nat}
theorem Loose.lt {K : Nat} {v : Value} {es : List V} {g : Nat} (h : Loose K sz m w v es g) : g < w.heap.size := by
  obtain ⟨_, _, _, _, hh, _⟩ := h.is
  exact heap_lt hh
theorem BoxAt.stab {g : Nat} {cs : List V} (h : BoxAt m w g cs) (hs : Step S m w m' w') (hS : ¬ S g) : BoxAt m' w' g cs := by
  obtain ⟨hl, vals, ty, xs, rest, hh, hx, hr⟩ := h
  obtain ⟨h1, h2⟩ := hs.same g (heap_lt hh) hS
  exact ⟨by rw [h2]; exact hl, vals, ty, xs, rest, by rw [h1]; exact hh, hx, hr.mono hs.ext⟩
theorem Loose.stab {K : Nat} {v : Value} {es : List V} {g : Nat} (h : Loose K sz m w v es g) (hs : Step S m w m' w') (hS : ¬ S g) : Loose K sz m' w' v es g := by
  obtain ⟨h1, h2, cap, cur, ty, q1, q2, q3⟩ := h
  exact ⟨h1.stab hs hS, h2, cap, cur, ty, q1, by rw [(hs.same g (heap_lt q2) hS).1]; exact q2, q3⟩
theorem Bed.lt {K : Nat} {P : List (Value × List V)} {gs : List Nat} (h : Bed K sz m w P gs) : ∀ g ∈ gs, g < w.heap.size := by
  induction h with
  | nil => exact fun g hg => by cases hg
  | no _ ih => exact ih
  | row _ h1 _ _ ih =>
    intro g hg
    rcases List.mem_cons.1 hg with rfl | hg
    · exact h1.lt
    · exact ih g hg
theorem Bed.stab {K : Nat} {P : List (Value × List V)} {gs : List Nat} (h : Bed K sz m w P gs) (hs : Step S m w m' w') (hS : ∀ g ∈ gs, ¬ S g) : Bed K sz m' w' P gs := by
  induction h with
  | nil => exact .nil
  | no _ ih => exact .no (ih hS)
  | row hne h1 h2 _ ih => exact .row hne (h1.stab hs (hS _ (List.mem_cons_self ..))) h2 (ih fun g hg => hS g (List.mem_cons_of_mem _ hg))

theorem Bed.slice {K : Nat} {v : Value} {es : List V} {P : List (Value × List V)} {gs : List Nat} (h : Bed K sz m w ((v, es) :: P) gs) : ∃ ao ln cp, v = .slice ao ln cp := by
  cases h with
  | no _ => exact ⟨_, _, _, rfl⟩
  | row _ h1 _ _ =>
    obtain ⟨cap, _, _, e, _⟩ := h1.is
    exact ⟨_, _, _, e⟩
/-- A variable, or a row, of the call's own is the run's no more. -/
theorem Now.shed (hMB : ∀ s, E.MB s = false) (h : Now E n D O m st a w) {s : Nat} {cs : List V} (hb : st.b s = some cs) {st' : St} (hl : Le st' st) (hbn : st'.b s = none) :
    ∃ g, O g ∧ E.K ≤ g ∧ BoxAt m w g cs ∧ (∀ i, st.t i = .ptr s 0 → a.tmps.getD i Go.undef = .pointer (some ⟨g, 0, none⟩)) ∧
      (∀ i sz len, st.t i = .row s sz len → len * sz ≤ cs.length ∧ ∃ (cap : Nat) (cur : Array Value) (ty : TyAt cur.size), a.tmps.getD i Go.undef = .slice (some ⟨g, 0, none⟩) len cap ∧ w.heap[g]? = some (.cells cur ty.ty ty.fz) ∧ len ≤ cap ∧ cur.size = cap * sz) ∧
      Now E n D (fun k => O k ∧ k ≠ g) m st' a w := by
  obtain ⟨⟨b, β, hr⟩, hlt⟩ := h
  have hr' := hr.le hl
  obtain ⟨hbox, hge⟩ := hr.boxes s cs hb
  have hgsz : β s < w.heap.size := by obtain ⟨_, _, _, _, _, hh, _⟩ := hbox; exact heap_lt hh
  have hO : O (β s) := by
    rcases hge with hge | hge
    · exact absurd hgsz (Nat.not_lt.2 hge)
    · exact (mem_lst.1 hge).2
  have hin : ∀ x, x < w.heap.size → (w.heap.size ≤ x ∨ x ∈ lst O w.heap.size) → x ≠ β s → x ∈ lst (fun k => O k ∧ k ≠ β s) w.heap.size := fun x hx ho hne => by
    rcases ho with ho | ho
    · exact absurd hx (Nat.not_lt.2 ho)
    · exact mem_lst.2 ⟨hx, (mem_lst.1 ho).2, hne⟩
  refine ⟨β s, hO, hr.par.2.2 _ (mem_lst.2 ⟨hgsz, hO⟩), hbox, fun i hi => (hi ▸ hr.tmps i : Rs m w β _ (.ptr s 0)).ptr, fun i sz len hi => ?_, ⟨⟨b, β, ⟨hr'.tmps, hr'.size, fun s' cs' hs' => ?_, hr'.inj, Bel.refl _ _, ⟨hr'.par.1, hr'.par.2.1, fun x hx => ?_⟩, ⟨fun _ _ _ => rfl, Ext.refl _ _, fun y hy => hy⟩, ?_, hr'.own, hr'.defers, hr'.glob, hr'.j, ?_⟩⟩, fun k hk => hlt k hk.1⟩⟩
  · obtain ⟨cap0, e0, hle⟩ := (hi ▸ hr.tmps i : Rs m w β _ (.row s sz len)).row
    obtain ⟨h1, cap, cur, ty, h2, h3, h4⟩ := hr.own i s sz len cs hi hb
    have e1 : a.tmps.getD i Go.undef = .slice (some ⟨β s, 0, none⟩) len cap := h2
    rw [e0] at e1
    cases e1
    exact ⟨h1, cap0, cur, ty, e0, h3, hle, h4⟩
  · obtain ⟨h1, h2⟩ := hr'.boxes s' cs' hs'
    have hlt' : β s' < w.heap.size := by obtain ⟨_, _, _, _, _, hh, _⟩ := h1; exact heap_lt hh
    refine ⟨h1, .inr (hin _ hlt' h2 fun e => ?_)⟩
    obtain ⟨c0, hc0, _⟩ := hl.b s' cs' hs'
    have : s' = s := hr.inj s' s c0 cs hc0 hb e
    rw [this, hbn] at hs'
    cases hs'
  · obtain ⟨q1, q2, _⟩ := mem_lst.1 hx
    exact hr.par.2.2 x (mem_lst.2 ⟨q1, q2⟩)
  · obtain ⟨ρ, hrw⟩ := hr.rows
    have hB : ∀ v sz es s', Bear E w β st' (fun i => a.tmps.getD i Go.undef) v (.sl false sz es (some s')) → Bear E w β st (fun i => a.tmps.getD i Go.undef) v (.sl false sz es (some s')) := by
      rintro v sz es s' (⟨i, h1, h2⟩ | ⟨k, _, _, hk, _⟩)
      · refine .inl ⟨i, ?_, h2⟩
        rcases hl.t i with h0 | h0 | ⟨_, _, _, _, h0, _⟩
        · rw [h0] at h1; cases h1
        · rw [← h0]; exact h1
        · rw [h0] at h1; cases h1
      · rw [hMB] at hk; cases hk
    refine ⟨ρ, fun v sz es s' hi => ?_, fun v sz es s1 v' sz' es' s2 hi hi' e => hrw.sep _ _ _ _ _ _ _ _ (hB _ _ _ _ hi) (hB _ _ _ _ hi') e, fun v sz es s1 k c hi hk => ?_⟩
    · obtain ⟨lo, lim, cap, cur, ty, hv, hh, hc, hs⟩ := hrw.row _ _ _ _ (hB _ _ _ _ hi)
      exact ⟨.inr (hin _ (heap_lt hh) lo fun e => hrw.box _ _ _ _ s cs (hB _ _ _ _ hi) hb e.symm), lim, cap, cur, ty, hv, hh, hc, hs⟩
    · obtain ⟨c0, hc0, _⟩ := hl.b k c hk
      exact hrw.box _ _ _ _ _ _ (hB _ _ _ _ hi) hc0
  · refine ⟨fun i s' ks vs hi => ?_, hr'.maps.inj⟩
    obtain ⟨h1, h2⟩ := hr'.maps.holds i s' ks vs hi
    obtain ⟨ents, clock, hh, hrest⟩ := h1
    refine ⟨⟨ents, clock, hh, hrest⟩, .inr (hin _ (heap_lt hh) h2 fun e => ?_)⟩
    obtain ⟨_, vals, ty, xs, rest, hh', _⟩ := hbox
    rw [e, hh'] at hh
    cases hh
/-- What was nobody's is the run's own: a row, under a name that nobody bears. -/
theorem Now.take (hMB : ∀ s, E.MB s = false) (h : Now E n D O m st a w) {v : Value} {es : List V} {g : Nat} (hL : Loose E.K sz m w v es g) (hlen : ∀ e ∈ es, e.cells.length = sz) (hO : ¬ O g) {d s : Nat} (hv : a.tmps.getD d Go.undef = v) (hno : noPtrTo s st.t) (hs : s < n) :
    Now E n D (fun k => O k ∨ k = g) m ⟨upd st.t d (.row s sz es.length), upd st.b s (some (es.flatMap V.cells))⟩ a w := by
  obtain ⟨⟨b, β, hr⟩, hlt⟩ := h
  obtain ⟨hbx, hlow, cap, cur, ty, hve, hh, hcap, hcs⟩ := hL
  have hbg : ∀ {s' : Nat} {cs' : List V}, st.b s' = some cs' → β s' ≠ g := fun {s' cs'} hs' e => by
    obtain ⟨⟨_, _, _, _, _, hh', _⟩, hge⟩ := hr.boxes s' cs' hs'
    rcases hge with hge | hge
    · exact absurd (heap_lt hh') (Nat.not_lt.2 hge)
    · exact hO (e ▸ (mem_lst.1 hge).2)
  have hin : ∀ x, x < w.heap.size → (w.heap.size ≤ x ∨ x ∈ lst O w.heap.size) → x ∈ lst (fun k => O k ∨ k = g) w.heap.size := fun x hx ho => by
    rcases ho with ho | ho
    · exact absurd hx (Nat.not_lt.2 ho)
    · exact mem_lst.2 ⟨hx, .inl (mem_lst.1 ho).2⟩
  have hfl : (es.flatMap V.cells).length = es.length * sz := by
    clear hbx hcap hve
    induction es with
    | nil => simp
    | cons e es ih =>
      rw [List.flatMap_cons, List.length_append, ih (fun x hx => hlen x (List.mem_cons_of_mem _ hx)), hlen e (List.mem_cons_self ..), List.length_cons, Nat.add_mul, Nat.one_mul, Nat.add_comm]
  have hbeta : ∀ s', s' ≠ s → upd β s g s' = β s' := fun s' hs' => upd_ne _ _ hs'
  refine ⟨⟨b, upd β s g, ⟨fun i => ?_, hr.size, fun s' cs' hs' => ?_, fun s1 s2 c1 c2 h1 h2 heq => ?_, Bel.refl _ _, ⟨hr.par.1, fun s' hs' => (hbeta s' (by have := hr.par.1; omega)).trans (hr.par.2.1 s' hs'), fun x hx => ?_⟩, ⟨fun _ _ _ => rfl, Ext.refl _ _, fun y hy => hy⟩, ?_, fun i s' sz' len' cs' hi hb => ?_, hr.defers, hr.glob, hr.j, ?_⟩⟩, fun k hk => ?_⟩
  · show Rs m w (upd β s g) _ (upd st.t d (.row s sz es.length) i)
    by_cases e : i = d
    · subst e
      rw [upd_same, hv, hve]
      have := Rs.ofRow (m := m) (w := w) (β := upd β s g) s sz hcap
      rwa [upd_same] at this
    · rw [upd_ne _ _ e]
      exact (hr.tmps i).beta (fun s' hs' => hbeta s' (fun e => hno i (by rw [hs', e])))
  · have hs' : upd st.b s (some (es.flatMap V.cells)) s' = some cs' := hs'
    by_cases e : s' = s
    · subst e
      rw [upd_same] at hs' ⊢
      cases hs'
      exact ⟨hbx, .inr (mem_lst.2 ⟨heap_lt hh, .inr rfl⟩)⟩
    · rw [upd_ne _ _ e] at hs' ⊢
      obtain ⟨h1, h2⟩ := hr.boxes s' cs' hs'
      have hlt' : β s' < w.heap.size := by obtain ⟨_, _, _, _, _, hh, _⟩ := h1; exact heap_lt hh
      exact ⟨h1, .inr (hin _ hlt' h2)⟩
  · have h1 : upd st.b s (some (es.flatMap V.cells)) s1 = some c1 := h1
    have h2 : upd st.b s (some (es.flatMap V.cells)) s2 = some c2 := h2
    by_cases e1 : s1 = s
    · by_cases e2 : s2 = s
      · rw [e1, e2]
      · subst e1
        rw [upd_ne _ _ e2] at h2
        rw [upd_same, hbeta _ e2] at heq
        exact absurd heq.symm (hbg h2)
    · by_cases e2 : s2 = s
      · subst e2
        rw [upd_ne _ _ e1] at h1
        rw [upd_same, hbeta _ e1] at heq
        exact absurd heq (hbg h1)
      · rw [upd_ne _ _ e1] at h1
        rw [upd_ne _ _ e2] at h2
        rw [hbeta _ e1, hbeta _ e2] at heq
        exact hr.inj _ _ _ _ h1 h2 heq
  · obtain ⟨q1, q2⟩ := mem_lst.1 hx
    rcases q2 with q2 | rfl
    · exact hr.par.2.2 x (mem_lst.2 ⟨q1, q2⟩)
    · exact hlow
  · obtain ⟨ρ, hrw⟩ := hr.rows
    have hB : ∀ v sz' es' s', Bear E w (upd β s g) ⟨upd st.t d (.row s sz es.length), upd st.b s (some (es.flatMap V.cells))⟩ (fun i => a.tmps.getD i Go.undef) v (.sl false sz' es' (some s')) → Bear E w β st (fun i => a.tmps.getD i Go.undef) v (.sl false sz' es' (some s')) := by
      rintro v sz' es' s' (⟨i, h1, h2⟩ | ⟨k, _, _, hk, _⟩)
      · have h1 : upd st.t d (.row s sz es.length) i = .sl false sz' es' (some s') := h1
        by_cases e : i = d
        · rw [e, upd_same] at h1; cases h1
        · rw [upd_ne _ _ e] at h1
          exact .inl ⟨i, h1, h2⟩
      · rw [hMB] at hk; cases hk
    refine ⟨ρ, fun v sz' es' s' hi => ?_, fun v sz es s1 v' sz' es' s2 hi hi' e => hrw.sep _ _ _ _ _ _ _ _ (hB _ _ _ _ hi) (hB _ _ _ _ hi') e, fun v sz' es' s1 k c hi hk => ?_⟩
    · obtain ⟨lo, lim, cap, cur, ty, hv, hh, hc, hs⟩ := hrw.row _ _ _ _ (hB _ _ _ _ hi)
      exact ⟨.inr (hin _ (heap_lt hh) lo), lim, cap, cur, ty, hv, hh, hc, hs⟩
    · have hk : upd st.b s (some (es.flatMap V.cells)) k = some c := hk
      obtain ⟨lo, lim, cap, cur, ty, _, hh', _⟩ := hrw.row _ _ _ _ (hB _ _ _ _ hi)
      by_cases e : k = s
      · subst e
        rw [upd_same]
        rintro rfl
        rcases lo with lo | lo
        · exact absurd (heap_lt hh') (Nat.not_lt.2 lo)
        · exact hO (mem_lst.1 lo).2
      · rw [upd_ne _ _ e] at hk
        rw [hbeta _ e]
        exact hrw.box _ _ _ _ _ _ (hB _ _ _ _ hi) hk
  · replace hi : upd st.t d (.row s sz es.length) i = .row s' sz' len' := hi
    replace hb : upd st.b s (some (es.flatMap V.cells)) s' = some cs' := hb
    by_cases e : i = d
    · subst e
      rw [upd_same] at hi
      cases hi
      rw [upd_same] at hb
      cases hb
      refine ⟨by rw [hfl]; exact Nat.le_refl _, cap, cur, ty, ?_, ?_, hcs⟩
      · rw [upd_same]; exact hv.trans hve
      · rw [upd_same]; exact hh
    · rw [upd_ne _ _ e] at hi
      have hne : s' ≠ s := fun e' => hno i (by rw [hi, e']; rfl)
      rw [upd_ne _ _ hne] at hb
      have := hr.own i s' sz' len' cs' hi hb
      exact ⟨this.fit, by rw [hbeta _ hne]; exact this.is⟩
  · refine ⟨fun i s' ks vs hi => ?_, fun i j s1 s2 ks1 vs1 ks2 vs2 hi hj e => ?_⟩
    · have hi : upd st.t d (.row s sz es.length) i = .mp s' ks vs := hi
      by_cases e : i = d
      · rw [e, upd_same] at hi; cases hi
      · rw [upd_ne _ _ e] at hi
        have hne : s' ≠ s := fun e' => hno i (by rw [hi, e']; rfl)
        rw [hbeta _ hne]
        obtain ⟨⟨ents, clock, hh, hrest⟩, h2⟩ := hr.maps.holds i s' ks vs hi
        exact ⟨⟨ents, clock, hh, hrest⟩, .inr (hin _ (heap_lt hh) h2)⟩
    · have hi : upd st.t d (.row s sz es.length) i = .mp s1 ks1 vs1 := hi
      have hj : upd st.t d (.row s sz es.length) j = .mp s2 ks2 vs2 := hj
      by_cases e1 : i = d
      · rw [e1, upd_same] at hi; cases hi
      · by_cases e2 : j = d
        · rw [e2, upd_same] at hj; cases hj
        · rw [upd_ne _ _ e1] at hi
          rw [upd_ne _ _ e2] at hj
          rw [hbeta _ (fun e' => hno i (by rw [hi, e']; rfl)), hbeta _ (fun e' => hno j (by rw [hj, e']; rfl))] at e
          exact hr.maps.inj _ _ _ _ _ _ _ _ hi hj e
  · rcases hk with hk | rfl
    · exact hlt k hk
    · exact heap_lt hh
/-- A slot's value is known to be so much. -/
theorem Now.learn (h : Now E n D O m st a w) {d : Nat} (hd : d < n) {u : V} (hv : Rd m w (a.tmps.getD d Go.undef) u) : Now E n D O m ⟨upd st.t d u.bare, st.b⟩ a w := by
  have hz : a.tmps.size = n := by obtain ⟨_, _, hr⟩ := h.rel; exact hr.size
  have := h.put hd hv
  have e : a.put (some d) (a.tmps.getD d Go.undef) = a := by
    have : a.tmps.setIfInBounds d (a.tmps.getD d Go.undef) = a.tmps := by
      apply Array.ext_getElem?
      intro i
      rw [Array.getElem?_setIfInBounds]
      split
      · rename_i e
        subst e
        rw [if_pos (by omega), Array.getD_eq_getD_getElem?, Array.getElem?_eq_getElem (by omega)]
        rfl
      · rfl
    show ({ a with tmps := _ } : Act) = a
    rw [this]
  rw [e] at this
  exact this
/-- From here on a block that is nobody's stays as it is. -/
theorem Step.freeze (g : Nat) (m : Lim) (w : World) : Step (fun k => k = g) m w (upd m g none) w := by
  refine ⟨rfl, rfl, rfl, ⟨Nat.le_refl _, fun _ _ _ _ _ h => h, fun blk _ fr' hf => ?_⟩, fun k _ hk => ⟨rfl, upd_ne _ _ hk⟩⟩
  by_cases e : blk = g
  · rw [e, upd_same] at hf; cases hf
  · rw [upd_ne _ _ e] at hf; exact ⟨fr', hf, Nat.le_refl _⟩

/-- What a part of the call's run is reckoned from. -/
structure Hb where
  Kn : Kno
  W : Nat → Bool
  t0 : Array Value
  ms : Lim
  ws : World
/-- The call's run, and rows beside it. -/
def Hold (E : Env) (n sz : Nat) (B : Hb) (P : List (Value × List V)) (st : St) (a : Act) (w : World) : Prop :=
  ∃ m O gs, Now E n [] O m st a w ∧ Bed E.K sz m w P gs ∧ (∀ g ∈ gs, ¬ O g ∧ B.ws.heap.size ≤ g) ∧ (∀ k, O k → B.ws.heap.size ≤ k) ∧ Step (fun _ => False) B.ms B.ws m w ∧ B.Kn.P m w ∧ KeepT B.W B.t0 a.tmps
variable {B : Hb} {P : List (Value × List V)}
theorem Hold.le {st' : St} (h : Hold E n sz B P st a w) (hl : Le st' st) : Hold E n sz B P st' a w := by
  obtain ⟨m, O, gs, h1, h2⟩ := h
  exact ⟨m, O, gs, h1.le hl, h2⟩
theorem Hold.grown {a' : Act} {st' : St} {gs : List Nat} (h2 : Bed E.K sz m w P gs) (h3 : ∀ g ∈ gs, ¬ O g ∧ B.ws.heap.size ≤ g) (h4 : ∀ k, O k → B.ws.heap.size ≤ k) (h5 : Step (fun _ => False) B.ms B.ws m w) (h6 : B.Kn.P m w) (hkt : KeepT B.W B.t0 a'.tmps)
    (hn : Now E n [] (grew O w w') m' st' a' w') (hs : Step O m w m' w') : Hold E n sz B P st' a' w' := by
  refine ⟨m', _, gs, hn, h2.stab hs (fun g hg => (h3 g hg).1), fun g hg => ⟨fun hgr => ?_, (h3 g hg).2⟩, fun k hg => ?_, h5.next hs (fun i hi ho => absurd hi (Nat.not_lt.2 (h4 i ho))), B.Kn.mono _ _ _ _ h6 hs.ext, hkt⟩
  · rcases hgr.2 with ho | ho
    · exact (h3 g hg).1 ho
    · exact absurd (h2.lt g hg) (Nat.not_lt.2 ho)
  · rcases hg.2 with ho | ho
    · exact h4 k ho
    · exact Nat.le_trans h5.ext.size ho
theorem hold_run (hE : EnvOK E) (hm : E.P.follows .mixedOrders = true) {c : Code} {K : Out → St → Prop} (hok : okCode E.any n c = true) (hW : wrC B.W c = true) (h : Hold E n sz B P st a w) (hr : run E c st K) :
    c.wpIn (fen r) 0 E.P (fun e a' w' => ∃ o st', outE e = some o ∧ K o st' ∧ Hold E n sz B P st' a' w') a w := by
  obtain ⟨m, O, gs, h1, h2, h3, h4, h5, h6, h7⟩ := h
  refine wpIn_mono (run_now (r := r) (W := B.W) hE hm hok hW h1 hr) ?_
  rintro e a' w' ⟨hk, o, st', m', ho, hK, hn, hs⟩
  exact ⟨o, st', ho, hK, Hold.grown h2 h3 h4 h5 h6 (h7.trans hk) hn hs⟩
/-- A part of a run that ends behind it. -/
theorem hold_T (hE : EnvOK E) (hm : E.P.follows .mixedOrders = true) {c : Code} (ts : List (Nat × V)) (bs : List (Nat × List V)) (hok : okCode E.any n c = true) (hW : wrC B.W c = true) (h : Hold E n sz B P st a w) (hr : run E c st (endT ts bs)) {Q : Exit → Act → World → Prop}
    (hQ : ∀ a' w', Hold E n sz B P (stOf ts bs) a' w' → Q .normal a' w') : c.wpIn (fen r) 0 E.P Q a w := by
  refine wpIn_mono (hold_run hE hm hok hW h hr) ?_
  rintro e a' w' ⟨o, st', ho, hK, ht⟩
  cases o with
  | ret => exact hK.elim
  | exit id => exact hK.elim
  | normal =>
    cases e <;> simp only [outE, Option.some.injEq, reduceCtorEq] at ho
    exact hQ _ _ (ht.le (le_stOf hK.1 hK.2))
theorem hold_X (hE : EnvOK E) (hm : E.P.follows .mixedOrders = true) {c : Code} (id : Nat) (ts : List (Nat × V)) (bs : List (Nat × List V)) (hok : okCode E.any n c = true) (hW : wrC B.W c = true) (h : Hold E n sz B P st a w) (hr : run E c st (endX id ts bs)) {Q : Exit → Act → World → Prop}
    (hQ : ∀ a' w', Hold E n sz B P (stOf ts bs) a' w' → Q (.exit id) a' w') : c.wpIn (fen r) 0 E.P Q a w := by
  refine wpIn_mono (hold_run hE hm hok hW h hr) ?_
  rintro e a' w' ⟨o, st', ho, hK, ht⟩
  cases o with
  | ret => exact hK.elim
  | normal => exact hK.elim
  | exit i =>
    obtain ⟨rfl, h1, h2⟩ := hK
    cases e <;> simp only [outE, Option.some.injEq, reduceCtorEq, Out.exit.injEq] at ho
    subst ho
    exact hQ _ _ (ht.le (le_stOf h1 h2))
theorem hold_R (hE : EnvOK E) (hm : E.P.follows .mixedOrders = true) {c : Code} (ts : List (Nat × V)) (bs : List (Nat × List V)) (hok : okCode E.any n c = true) (hW : wrC B.W c = true) (h : Hold E n sz B P st a w) (hr : run E c st (endR ts bs)) {Q : Exit → Act → World → Prop}
    (hQ : ∀ a' w', Hold E n sz B P (stOf ts bs) a' w' → Q .ret a' w') : c.wpIn (fen r) 0 E.P Q a w := by
  refine wpIn_mono (hold_run hE hm hok hW h hr) ?_
  rintro e a' w' ⟨o, st', ho, hK, ht⟩
  cases o with
  | normal => exact hK.elim
  | exit id => exact hK.elim
  | ret =>
    cases e <;> simp only [outE, Option.some.injEq, reduceCtorEq] at ho
    exact hQ _ _ (ht.le (le_stOf hK.1 hK.2))
/-- Some operations of a region. -/
theorem hold_ops (hE : EnvOK E) {ops : List Oper} {Q : Exit → Act → World → Prop} (ts : List (Nat × V)) (bs : List (Nat × List V)) (rest : List Nat) : ∀ (l : List Oper) (is : List Nat) (st : St) (a : Act) (w : World), (is.map fun i => ops[i]?) = l.map some → dstsIn n l = true → wrL B.W ops = true →
    Hold E n sz B P st a w → (aopsK E ⟨ops⟩ l st fun st' => leT st' ts ∧ leB st' bs) → (∀ a' w', Hold E n sz B P (stOf ts bs) a' w' → wpOpsIn (fen r) 0 E.P ⟨ops⟩ Q rest a' w') → wpOpsIn (fen r) 0 E.P ⟨ops⟩ Q (is ++ rest) a w
  | [], [], st, a, w, _, _, _, h, hr, hK => hK a w (h.le (le_stOf hr.1 hr.2))
  | [], i :: is, st, a, w, hi, _, _, h, hr, hK => by simp at hi
  | o :: l, [], st, a, w, hi, _, _, h, hr, hK => by simp at hi
  | o :: l, i :: is, st, a, w, hi, hd, hWo, h, hr, hK => by
    rw [List.cons_append, wpOpsIn_cons]
    simp only [List.map_cons, List.cons.injEq] at hi
    obtain ⟨st', hs, hl, hb⟩ := aopsK_out _ _ hr
    unfold aopsV at hs
    split at hs
    · rename_i st1 h1
      obtain ⟨m, O, gs, q1, q2, q3, q4, q5, q6, q7⟩ := h
      have hlt := q1.lt
      obtain ⟨b, β, hrel⟩ := q1.rel
      have hi1 : (⟨ops⟩ : Array Oper)[i]? = some o := by simpa using hi.1
      have hwp : wpOpIn (fen r) 0 E.P ⟨ops⟩ Q i (fun a' w' => Hold E n sz B P st1 a' w' ∨ (∃ m' β', Rel E n ⟨lst O w.heap.size, b, lst O w.heap.size, []⟩ m w m' β' st1 a' w')) a w := aopV_sound hE.x hrel hi1 (dstsIn_of hd (by simp)) h1 (fun a' w' m' β' hr' => .inr ⟨m', β', hr'⟩)
      have hkeep := wpOpIn_keep (W := B.W) (t := B.t0) (by simpa using hWo) q7 (K' := fun a' w' => Hold E n sz B P st1 a' w') (fun a' w' hK' hkt => by
        rcases hK' with hK' | ⟨m', β', hr'⟩
        · exact hK'
        · obtain ⟨hn, hst⟩ := Now.of_rel hE hlt hr'
          exact Hold.grown q2 q3 q4 q5 q6 hkt hn hst) hwp
      have hdl : dstsIn n l = true := by simp only [dstsIn, List.all_cons, Bool.and_eq_true] at hd; exact hd.2
      exact wpOpIn_weak (fun a' w' h' => hold_ops hE ts bs rest l is st1 a' w' hi.2 hdl hWo h' (aopsK_in _ _ hs ⟨hl, hb⟩) hK) (fun e a' w' h' => h'.1) hkeep
    · cases hs
/-- Operations k, k + 1, .. of a region (j of them). -/
theorem hold_S (hE : EnvOK E) {ops : List Oper} {Q : Exit → Act → World → Prop} (k j : Nat) (ts : List (Nat × V)) (bs : List (Nat × List V)) (rest : List Nat) (hl : k + j ≤ ops.length) (hd : dstsIn n ((ops.drop k).take j) = true) (hW : wrL B.W ops = true)
    (h : Hold E n sz B P st a w) (hr : aopsK E ⟨ops⟩ ((ops.drop k).take j) st fun st' => leT st' ts ∧ leB st' bs) (hK : ∀ a' w', Hold E n sz B P (stOf ts bs) a' w' → wpOpsIn (fen r) 0 E.P ⟨ops⟩ Q rest a' w') : wpOpsIn (fen r) 0 E.P ⟨ops⟩ Q (List.range' k j ++ rest) a w :=
  hold_ops hE ts bs rest _ _ st a w (range_ops ops k j hl) hd hW h hr hK
/-- A call at its beginning. -/
theorem Hold.start {vs : Array Value} {us : List V} {k : Nat} (hr : RdL m w vs.toList us) (hdat : us.all V.dat = true) (hl : us.length = k) (hk : k ≤ n) (hn1 : n ≤ 1000) (hj : E.J w) (hg : ∀ g, Rd m w (.pointer (some ⟨g, 0, none⟩)) (E.G g)) {Kn : Kno} (hkn : Kn.P m w) :
    Hold E n sz ⟨Kn, fun _ => true, #[], m, w⟩ [] (start us) { tmps := vs ++ Array.replicate (n - vs.size) Go.undef, defers := [] } w :=
  ⟨m, _, [], Now.first (rel_start hr hdat hl hk hn1 hj hg), .nil, fun _ h => (by cases h), fun _ h => h.elim, Step.refl _ _ _, hkn, fun i hi => by cases hi⟩
/-- What a call makes of very values, out of its body. -/
theorem calls_of_hold {f : FuncId} {fn : Func} {c : Code} {vs : Array Value} {us : List V} {k : Nat} {R : Value → World → Prop} (hf : E.P.funcs[f]? = some fn) (hb : fn.body = some c) (hn : fn.ntmps = n) (hk : k ≤ n) (hn1 : n ≤ 1000)
    (hr : RdL m w vs.toList us) (hdat : us.all V.dat = true) (hl : us.length = k) (hj : E.J w) (hg : ∀ g, Rd m w (.pointer (some ⟨g, 0, none⟩)) (E.G g)) {Kn : Kno} (hkn : Kn.P m w)
    (hbody : ∀ a : Act, Hold E n sz ⟨Kn, fun _ => true, #[], m, w⟩ [] (start us) a w → c.wpIn (fen none) 0 E.P (fun e a' w' => (e = .normal ∨ e = .ret) ∧ ∃ B' P' st' r, Hold E n sz B' P' st' a' w' ∧ B'.ms = m ∧ B'.ws = w ∧ resV E st' fn.results.toList = some r ∧
      ∀ v m' gs, Rd m' w' v r → Bed E.K sz m' w' P' gs → (∀ g ∈ gs, w.heap.size ≤ g) → Step (fun _ => False) m w m' w' → B'.Kn.P m' w' → E.J w' → R v w') a w) :
    Calls E.P f vs w fun e w' => ∃ v, e = .returned v ∧ R v w' := by
  refine calls_of_wp hf hb ?_
  rw [hn]
  refine wp_mono (wpIn_wide.1 (hbody _ (Hold.start hr hdat hl hk hn1 hj hg hkn))) ?_
  rintro e a' w' ⟨he, B', P', st', r, ⟨m1, O, gs, h1, h2, h3, h4, h5, h6, h7⟩, hms, hws, hres, hR⟩
  have done : a'.defers = [] ∧ ∃ v, (results fn a'.tmps).run E.P w' = .ok v w' ∧ ∃ v', Ending.returned v = .returned v' ∧ R v' w' := by
    obtain ⟨b, β, hrel⟩ := h1.rel
    obtain ⟨v, hv, hd⟩ := resV_sound hrel hres
    subst hms hws
    exact ⟨hrel.defers, v, hv, v, rfl, hR v m1 gs hd h2 (fun g hg => (h3 g hg).2) h5 h6 h1.J⟩
  rcases he with rfl | rfl
  · exact done
  · exact done
end
end Go.Proofs.YtakcoalbidjahaaDoor

/- Rows beside the run: laid down, taken up from anywhere among them, frozen all at once; regions that draw their order, by hand. No program is named here. -/
namespace Go.Proofs.YtakcoalbidjahaaDoor
open Go Go.RowKit
set_option linter.unusedSimpArgs false

section
variable {E : Env} {n sz : Nat} {B : Hb} {m m' : Lim} {w w' : World} {st : St} {a : Act} {O : Nat → Prop} {P : List (Value × List V)} {r : Option Nat}
theorem now_x {D : List Deferred} (h : Now E n D O m st a w) (i : Nat) {v : Value} (hi : st.t i = .x v) : a.tmps.getD i Go.undef = v := by
  obtain ⟨b, β, hr⟩ := h.rel
  exact (hi ▸ hr.tmps i : Rs m w β _ (.x v)).x
/-- A row of the run's own is laid beside it: its very value is known. -/
theorem hold_shed (hMB : ∀ s, E.MB s = false) (h : Hold E n sz B P st a w) {d s : Nat} {es : List V} (hd : st.t d = .row s sz es.length) (hb : st.b s = some (es.flatMap V.cells)) (hne : es ≠ []) (hdn : d < n) {st' : St} (hl : Le st' st) (hbn : st'.b s = none) :
    ∃ g cap, a.tmps.getD d Go.undef = .slice (some ⟨g, 0, none⟩) es.length cap ∧ Hold E n sz B ((.slice (some ⟨g, 0, none⟩) es.length cap, es) :: P) ⟨upd st'.t d (.x (.slice (some ⟨g, 0, none⟩) es.length cap)), st'.b⟩ a w := by
  obtain ⟨m, O, gs, h1, h2, h3, h4, h5, h6, h7⟩ := h
  obtain ⟨g, hO, hK, hbx, _, hrow, hn⟩ := h1.shed hMB hb hl hbn
  obtain ⟨_, cap, cur, ty, hv, hh, hc, hs⟩ := hrow d sz es.length hd
  have hl := hn.learn hdn (u := .x (.slice (some ⟨g, 0, none⟩) es.length cap)) (by rw [hv]; exact .x _)
  rw [bare_x] at hl
  refine ⟨g, cap, hv, m, _, g :: gs, hl, .row hne ⟨hbx, hK, cap, cur, ty, rfl, hh, hc, hs⟩ (fun hg => (h3 g hg).1 hO) h2, fun x hx => ?_, fun k hk => h4 k hk.1, h5, h6, h7⟩
  rcases List.mem_cons.1 hx with rfl | hx
  · exact ⟨fun h => h.2 rfl, h4 _ hO⟩
  · exact ⟨fun h => (h3 x hx).1 h.1, (h3 x hx).2⟩
theorem Bed.split {K : Nat} {v : Value} {es : List V} (hne : es ≠ []) {P2 : List (Value × List V)} : ∀ (P1 : List (Value × List V)) {gs : List Nat}, Bed K sz m w (P1 ++ (v, es) :: P2) gs → ∃ g gs', Loose K sz m w v es g ∧ Bed K sz m w (P1 ++ P2) gs' ∧ g ∉ gs' ∧ g ∈ gs ∧ ∀ x ∈ gs', x ∈ gs
  | [], gs, h => by
    cases h with
    | no h => exact absurd rfl hne
    | row _ h1 h2 h => exact ⟨_, _, h1, h, h2, List.mem_cons_self .., fun x hx => List.mem_cons_of_mem _ hx⟩
  | p :: P1, gs, h => by
    cases h with
    | no h =>
      obtain ⟨g, gs', q1, q2, q3, q4, q5⟩ := Bed.split hne P1 h
      exact ⟨g, gs', q1, .no q2, q3, q4, q5⟩
    | row hne' h1 h2 h =>
      obtain ⟨g, gs', q1, q2, q3, q4, q5⟩ := Bed.split hne P1 h
      rename_i g0 gs0
      refine ⟨g, g0 :: gs', q1, .row hne' h1 (fun hx => h2 (q5 _ hx)) q2, fun hx => ?_, List.mem_cons_of_mem _ q4, fun x hx => ?_⟩
      · rcases List.mem_cons.1 hx with rfl | hx
        · exact h2 q4
        · exact q3 hx
      · rcases List.mem_cons.1 hx with rfl | hx
        · exact List.mem_cons_self ..
        · exact List.mem_cons_of_mem _ (q5 _ hx)
/-- One of the rows beside the run is taken up. -/
theorem hold_take (hMB : ∀ s, E.MB s = false) {P1 P2 : List (Value × List V)} {v : Value} {es : List V} (h : Hold E n sz B (P1 ++ (v, es) :: P2) st a w) (hne : es ≠ []) (hlen : ∀ e ∈ es, e.cells.length = sz) {d s : Nat} (hv : st.t d = .x v) (hno : noPtrTo s st.t) (hs : s < n) :
    Hold E n sz B (P1 ++ P2) ⟨upd st.t d (.row s sz es.length), upd st.b s (some (es.flatMap V.cells))⟩ a w := by
  obtain ⟨m, O, gs, h1, h2, h3, h4, h5, h6, h7⟩ := h
  obtain ⟨g, gs', q1, q2, q3, q4, q5⟩ := Bed.split hne P1 h2
  have hn := h1.take hMB q1 hlen (h3 g q4).1 (now_x h1 d hv) hno hs
  refine ⟨m, _, gs', hn, q2, fun x hx => ⟨fun ho => ?_, (h3 x (q5 x hx)).2⟩, fun k hk => ?_, h5, h6, h7⟩
  · rcases ho with ho | rfl
    · exact (h3 x (q5 x hx)).1 ho
    · exact q3 hx
  · rcases hk with hk | rfl
    · exact h4 k hk
    · exact (h3 _ q4).2
theorem Bed.rd {K : Nat} {gs : List Nat} (h : Bed K sz m w P gs) (he : Ext m w m' w) (hP : ∀ p ∈ P, p.2 ≠ [] ∧ ∀ e ∈ p.2, e.cells.length = sz) (hm : ∀ g ∈ gs, m' g = none) : ∀ p ∈ P, Rd m' w p.1 (.sl false sz p.2 none) := by
  induction h with
  | nil => exact fun p hp => by cases hp
  | no _ ih => exact absurd rfl (hP _ (List.mem_cons_self ..)).1
  | row hne h1 h2 _ ih =>
    intro p hp
    rcases List.mem_cons.1 hp with rfl | hp
    · obtain ⟨⟨_, vals, ty, xs, rest, hh, hx, hr⟩, _, cap, cur, ty', hv, hh', hc, _⟩ := h1
      simp only at hv ⊢
      rw [hv]
      have hfl := (flat_of_rdl (n := sz) _ xs (hP _ (List.mem_cons_self ..)).2 hr).mono he
      exact Rd.of_flat hfl hh (fun j x hj => by rw [← Array.getElem?_toList, hx]; rw [List.getElem?_append_left (by obtain ⟨h, _⟩ := List.getElem?_eq_some_iff.1 hj; exact h)]; exact hj) hc (fun fr hf => by rw [hm _ (List.mem_cons_self ..)] at hf; cases hf) none
    · exact ih (fun p hp => hP p (List.mem_cons_of_mem _ hp)) (fun g hg => hm g (List.mem_cons_of_mem _ hg)) p hp
/-- A row of slices, told anew. -/
theorem Rd.retell {v : Value} {nl : Bool} {xs : List Value} {es' : List V} {tok : Option Nat} (h : Rd m w v (.sl nl 1 (xs.map V.x) tok)) (he : Ext m w m' w) (hl : es'.length = xs.length) (hne : xs ≠ [])
    (hr : ∀ (i : Nat) (x : Value) (e : V), xs[i]? = some x → es'[i]? = some e → e.cells = [e] ∧ Rd m' w x e) : Rd m' w v (.sl false 1 es' none) := by
  generalize hes : xs.map V.x = es at h
  have hlen : es.length = es'.length := by rw [← hes, List.length_map, hl]
  cases h with
  | nil sz tok => exact absurd (List.map_eq_nil_iff.1 hes) hne
  | sl blk off cap sz es tok c hb hcap hsz hc hm hr' =>
    rw [hlen]
    refine .sl blk off cap 1 es' none c hb (by omega) (fun i e hi => ?_) (fun k hk => ?_) (fun fr hf => ?_) (fun i e hi j d hd => ?_)
    · have hlt : i < xs.length := by obtain ⟨h, _⟩ := List.getElem?_eq_some_iff.1 hi; omega
      rw [(hr i _ e (List.getElem?_eq_getElem hlt) hi).1]
      rfl
    · exact hc k (by omega)
    · obtain ⟨fr0, h0, h1⟩ := he.lim blk hb fr hf
      have := hm fr0 h0
      omega
    · have hlt : i < xs.length := by obtain ⟨h, _⟩ := List.getElem?_eq_some_iff.1 hi; omega
      obtain ⟨h1, h2⟩ := hr i _ e (List.getElem?_eq_getElem hlt) hi
      rw [h1] at hd
      cases j with
      | succ j => simp at hd
      | zero =>
        simp at hd
        subst hd
        have := hr' i (.x xs[i]) (by rw [← hes, List.getElem?_map, List.getElem?_eq_getElem hlt]; rfl) 0 (.x xs[i]) rfl
        rw [Rd.x_iff.1 this]
        exact h2
  | emp a cap sz => exact absurd (List.map_eq_nil_iff.1 hes) hne
/-- The rows beside the run stay as they are from here on: a slot that holds them all is data. -/
theorem hold_freeze (h : Hold E n sz B P st a w) {d : Nat} {tok : Option Nat} {nl : Bool} {P' : List (Value × List V)} (hd : d < n) (hv : st.t d = .sl nl 1 ((P'.map (·.1)).map V.x) tok) (hP' : ∀ p ∈ P', p ∈ P) (hne : P' ≠ []) (hP : ∀ p ∈ P, p.2 ≠ [] ∧ ∀ e ∈ p.2, e.cells.length = sz) :
    Hold E n sz B [] ⟨upd st.t d (.sl false 1 (P'.map fun p => .sl false sz p.2 none) none), st.b⟩ a w := by
  obtain ⟨m, O, gs, h1, h2, h3, h4, h5, h6, h7⟩ := h
  have hs : Step (fun k => k ∈ gs) m w (fun k => open Classical in if k ∈ gs then none else m k) w := by
    refine ⟨rfl, rfl, rfl, ⟨Nat.le_refl _, fun _ _ _ _ _ h => h, fun blk _ fr' hf => ?_⟩, fun k _ hk => ⟨rfl, if_neg hk⟩⟩
    have hf : (open Classical in if blk ∈ gs then none else m blk) = some fr' := hf
    split at hf
    · cases hf
    · exact ⟨fr', hf, Nat.le_refl _⟩
  have hn := h1.other hs (fun k hk hg => (h3 k hg).1 hk) h1.J
  have hrd0 : Rd m w (a.tmps.getD d Go.undef) (.sl nl 1 ((P'.map (·.1)).map V.x) tok) := by
    obtain ⟨b, β, hr⟩ := h1.rel
    have := hr.tmps d
    rw [hv] at this
    rcases this with h | h
    · exact h
    · simp at h
  have hbr := h2.rd hs.ext hP (fun g hg => if_pos hg)
  have hrd := hrd0.retell (es' := P'.map fun p => .sl false sz p.2 none) hs.ext (by simp) (by simpa using hne) (fun i x e hx he => by
    rw [List.getElem?_map, Option.map_eq_some_iff] at hx he
    obtain ⟨p, hp, rfl⟩ := hx
    obtain ⟨q, hq, rfl⟩ := he
    rw [hp] at hq
    cases hq
    exact ⟨rfl, hbr p (hP' p (List.mem_of_getElem? hp))⟩)
  have hl := hn.learn hd hrd
  rw [bare_sl] at hl
  exact ⟨_, O, [], hl, .nil, fun g hg => (by cases hg), h4, h5.next hs (fun i hi hg => absurd hi (Nat.not_lt.2 (h3 i hg).2)), B.Kn.mono _ _ _ _ h6 hs.ext, h7⟩
/-- What an operation leaves alone. -/
theorem wpOpIn_keep1 {W : Nat → Bool} {F : Fence} {k : Nat} {P : Program} {ops : Array Oper} {i : Nat} {a : Act} {w : World} {t : Array Value} {o : Oper} (ho : ops[i]? = some o) (hdo : ∀ d, o.dst = some d → W d = true) (hk : KeepT W t a.tmps) {K K' : Act → World → Prop} {Q : Exit → Act → World → Prop}
    (hK : ∀ a' w', K a' w' → KeepT W t a'.tmps → K' a' w') (h : wpOpIn F k P ops Q i K a w) : wpOpIn F k P ops (fun e a' w' => Q e a' w' ∧ (e = .normal → KeepT W t a'.tmps)) i K' a w := by
  unfold wpOpIn at h ⊢
  rw [ho] at h ⊢
  simp only at h ⊢
  split
  · rename_i hw
    rw [if_pos hw] at h
    exact ⟨h.1, uponIn_keep hdo hk hK h.2⟩
  · rename_i hw
    rw [if_neg hw] at h
    exact ⟨h.1, hK _ _ h.2 (hk.put hdo)⟩
/-- One operation by the run. -/
theorem hold_op (hE : EnvOK E) {ops : List Oper} {Q : Exit → Act → World → Prop} {i : Nat} {o : Oper} (ts : List (Nat × V)) (bs : List (Nat × List V)) (hi : ops[i]? = some o) (hd : dstsIn n [o] = true) (hWo : ∀ d, o.dst = some d → B.W d = true) (h : Hold E n sz B P st a w) (hr : aopsK E ⟨ops⟩ [o] st fun st' => leT st' ts ∧ leB st' bs)
    {K : Act → World → Prop} (hK : ∀ a' w', Hold E n sz B P (stOf ts bs) a' w' → K a' w') : wpOpIn (fen r) 0 E.P ⟨ops⟩ Q i K a w := by
  obtain ⟨st', hs, hl, hb⟩ := aopsK_out _ _ hr
  unfold aopsV at hs
  split at hs
  · rename_i st1 h1
    obtain rfl : st1 = st' := by simpa [aopsV] using hs
    obtain ⟨m, O, gs, q1, q2, q3, q4, q5, q6, q7⟩ := h
    have hlt := q1.lt
    obtain ⟨b, β, hrel⟩ := q1.rel
    have hi1 : (⟨ops⟩ : Array Oper)[i]? = some o := by simpa using hi
    have hwp : wpOpIn (fen r) 0 E.P ⟨ops⟩ Q i (fun a' w' => Hold E n sz B P st1 a' w' ∨ (∃ m' β', Rel E n ⟨lst O w.heap.size, b, lst O w.heap.size, []⟩ m w m' β' st1 a' w')) a w := aopV_sound hE.x hrel hi1 (dstsIn_of hd (by simp)) h1 (fun a' w' m' β' hr' => .inr ⟨m', β', hr'⟩)
    have hkeep := wpOpIn_keep1 (W := B.W) (t := B.t0) hi1 hWo q7 (K' := fun a' w' => Hold E n sz B P st1 a' w') (fun a' w' hK' hkt => by
      rcases hK' with hK' | ⟨m', β', hr'⟩
      · exact hK'
      · obtain ⟨hn, hst⟩ := Now.of_rel hE hlt hr'
        exact Hold.grown q2 q3 q4 q5 q6 hkt hn hst) hwp
    exact wpOpIn_weak (fun a' w' h' => hK a' w' (h'.le (le_stOf hl hb))) (fun e a' w' h' => h'.1) hkeep
  · cases hs
/-- A slot's value is kept in sight. -/
theorem Hold.keepS (h : Hold E n sz B P st a w) (d : Nat) (v : Value) (hv : a.tmps.getD d Go.undef = v) : ∃ t0, t0.getD d Go.undef = v ∧ Hold E n sz ⟨B.Kn, fun i => i != d, t0, B.ms, B.ws⟩ P st a w := by
  obtain ⟨m, O, gs, h1, h2, h3, h4, h5, h6, h7⟩ := h
  exact ⟨a.tmps, hv, m, O, gs, h1, h2, h3, h4, h5, h6, KeepT.refl _ _⟩
theorem Hold.sight {t0 : Array Value} {W : Nat → Bool} {Kn : Kno} {ms : Lim} {ws : World} (h : Hold E n sz ⟨Kn, W, t0, ms, ws⟩ P st a w) (d : Nat) (hW : W d = false) : a.tmps.getD d Go.undef = t0.getD d Go.undef := by
  obtain ⟨m, O, gs, h1, h2, h3, h4, h5, h6, h7⟩ := h
  exact h7 d hW
theorem Hold.val (h : Hold E n sz B P st a w) {d : Nat} {v : Value} (hd : st.t d = .x v) : a.tmps.getD d Go.undef = v := by
  obtain ⟨m, O, gs, h1, _⟩ := h
  exact now_x h1 d hd
/-- .. and no more. -/
theorem Hold.unkeep {t0 : Array Value} {W : Nat → Bool} {Kn : Kno} {ms : Lim} {ws : World} (h : Hold E n sz ⟨Kn, W, t0, ms, ws⟩ P st a w) : Hold E n sz ⟨Kn, fun _ => true, #[], ms, ws⟩ P st a w := by
  obtain ⟨m, O, gs, h1, h2, h3, h4, h5, h6, h7⟩ := h
  exact ⟨m, O, gs, h1, h2, h3, h4, h5, h6, fun i hi => by cases hi⟩
/-- A nil row at a slot, as one of another size that may grow. -/
theorem Hold.nil (h : Hold E n sz B P st a w) (d k : Nat) (tok : Option Nat) {n0 : Nat} {k0 : Option Nat} (hd : st.t d = .sl true n0 [] k0) : Hold E n sz B P ⟨upd st.t d (.sl true k [] tok), st.b⟩ a w :=
  h.le ⟨fun i => by
    show (upd st.t d (.sl true k [] tok) i).le (st.t i)
    by_cases e : i = d
    · subst e
      rw [upd_same, hd]
      exact .inr (.inr ⟨_, _, _, _, rfl, rfl⟩)
    · rw [upd_ne _ _ e]
      exact .inr (.inl rfl), fun _ cs h => ⟨cs, h, leC_refl cs⟩⟩
/-- A region that draws its order, by what holds behind each set of operations. -/
theorem dag_hand {P : Program} {ops : List Oper} {Q : Exit → Act → World → Prop} {ps : List (Nat × Nat × Nat)} (hm : P.follows .mixedOrders = true) (hok : dagOK ops ps = true) (J : Nat → Act → World → Prop)
    (hstep : ∀ p ∈ ps, ∀ (a : Act) (w : World) (K : Act → World → Prop), J p.1 a w → (∀ a' w', J p.2.2 a' w' → K a' w') → wpOpIn (fen r) 0 P ⟨ops⟩ Q p.2.1 K a w) (hQ : ∀ a w, J (2 ^ ops.length - 1) a w → Q .normal a w) {id : Nat} (h0 : J 0 a { w with drawn := w.drawn + 1 }) : (Code.region id ⟨ops⟩ true).wpIn (fen r) 0 P Q a w := by
  refine wpIn_region_any hm ?_
  simp only [dagOK, Bool.and_eq_true] at hok
  obtain ⟨hpm, hS⟩ := hok
  have hready : ∀ (L : Nat) (Ls : List Nat) (listed : Array Bool), listed.size = ops.length → (∀ i, (listed.getD i false = true ↔ i ∈ Ls)) → (∀ i, i ∈ Ls ↔ L.testBit i = true) → ∀ i, i ∈ Region.ready .any ⟨ops⟩ listed ↔ i < ops.length ∧ readyM ops L i = true := by
    intro L Ls listed hsz hag hbit i
    have hb : ∀ k, listed.getD k false = true ↔ L.testBit k = true := fun k => (hag k).trans (hbit k)
    rw [ready_direct]
    constructor
    · rintro ⟨h1, o, h2, h3⟩
      have h2 : ops[i]? = some o := by simpa using h2
      have hlt := lt_of_some h2
      refine ⟨hlt, ?_⟩
      rw [getD_listed (ops := ⟨ops⟩) hsz hlt] at h1
      have hn : L.testBit i = false := by
        cases hb' : L.testBit i with
        | false => rfl
        | true => rw [(hb i).2 hb'] at h1; cases h1
      simp only [readyM, hn, Bool.not_false, Bool.true_and, h2, List.all_eq_true]
      exact fun k hk => (hb k).1 (h3 k hk)
    · rintro ⟨hlt, hr⟩
      simp only [readyM, Bool.and_eq_true, Bool.not_eq_true'] at hr
      obtain ⟨hn, hd⟩ := hr
      split at hd
      case h_2 => cases hd
      rename_i o ho
      refine ⟨?_, o, by simpa using ho, fun k hk => (hb k).2 (List.all_eq_true.1 hd k hk)⟩
      rw [getD_listed (ops := ⟨ops⟩) hsz hlt]
      cases hg : listed.getD i false with
      | false => rfl
      | true => rw [(hb i).1 hg] at hn; cases hn
  have hSL : ∀ L, (L = 0 ∨ ∃ p ∈ ps, p.2.2 = L) → (L = 2 ^ ops.length - 1 ∨ ∃ i, i < ops.length ∧ readyM ops L i = true) ∧ ∀ i, i < ops.length → readyM ops L i = true → ∃ p ∈ ps, p.1 = L ∧ p.2.1 = i := by
    intro L hL
    have hm : L ∈ (0 :: ps.map fun p => p.2.2) := by
      rcases hL with rfl | ⟨p, hp, rfl⟩
      · simp
      · exact List.mem_cons_of_mem _ (List.mem_map.2 ⟨p, hp, rfl⟩)
    have := List.all_eq_true.1 hS L hm
    simp only [Bool.and_eq_true, Bool.or_eq_true, beq_iff_eq, List.any_eq_true, List.all_eq_true, List.mem_range] at this
    refine ⟨this.1, fun i hi hr => ?_⟩
    have := this.2 i hi
    rw [hr] at this
    simpa using this
  have key : ∀ (fuel L : Nat) (Ls : List Nat) (listed : Array Bool) (a : Act) (w : World), (L = 0 ∨ ∃ p ∈ ps, p.2.2 = L) → listed.size = ops.length → (∀ i, (listed.getD i false = true ↔ i ∈ Ls)) → (∀ i, i ∈ Ls ↔ L.testBit i = true) →
      ((List.range ops.length).filter fun j => !Ls.contains j).length ≤ fuel → J L a w → wpAnyIn (fen r) 0 P .any ⟨ops⟩ Q fuel listed a w := by
    intro fuel
    induction fuel with
    | zero =>
      intro L Ls listed a w hL hsz hag hbit hrem h
      have hno : ∀ i, i < ops.length → i ∈ Ls := fun i hi => by
        have h0 : ((List.range ops.length).filter fun j => !Ls.contains j) = [] := List.length_eq_zero_iff.1 (Nat.le_zero.1 hrem)
        by_cases hm : i ∈ Ls
        · exact hm
        · have : i ∈ ((List.range ops.length).filter fun j => !Ls.contains j) := List.mem_filter.2 ⟨List.mem_range.2 hi, by simpa using hm⟩
          rw [h0] at this
          cases this
      have hnr : ∀ i, i < ops.length → readyM ops L i = false := fun i hi => by simp [readyM, (hbit i).1 (hno i hi)]
      have hfull : L = 2 ^ ops.length - 1 := by
        rcases (hSL L hL).1 with h1 | ⟨i, hi, hr⟩
        · exact h1
        · rw [hnr i hi] at hr; cases hr
      refine ⟨?_, hQ a w (hfull ▸ h)⟩
      rw [List.eq_nil_iff_forall_not_mem]
      intro i hi
      obtain ⟨h1, h2⟩ := (hready L Ls listed hsz hag hbit i).1 hi
      rw [hnr i h1] at h2
      cases h2
    | succ f ih =>
      intro L Ls listed a w hL hsz hag hbit hrem h
      refine ⟨fun hr => ?_, fun i hi => ?_⟩
      · have hfull : L = 2 ^ ops.length - 1 := by
          rcases (hSL L hL).1 with h1 | ⟨i, hi, hr'⟩
          · exact h1
          · have := (hready L Ls listed hsz hag hbit i).2 ⟨hi, hr'⟩
            rw [hr] at this
            cases this
        exact hQ a w (hfull ▸ h)
      · obtain ⟨hlt, hr⟩ := (hready L Ls listed hsz hag hbit i).1 hi
        obtain ⟨p, hp, hp1, hp2⟩ := (hSL L hL).2 i hlt hr
        have hpe := List.all_eq_true.1 hpm p hp
        rw [beq_iff_eq] at hpe
        have hn : i ∉ Ls := fun hm => by
          simp only [readyM, (hbit i).1 hm, Bool.not_true, Bool.false_and] at hr
          cases hr
        have hst := hstep p hp a w (fun a' w' => wpAnyIn (fen r) 0 P .any ⟨ops⟩ Q f (listed.setIfInBounds i true) a' w') (hp1 ▸ h) (fun a' w' h' => by
          refine ih p.2.2 (i :: Ls) _ a' w' (.inr ⟨p, hp, rfl⟩) (by simpa using hsz) (fun j => ?_) (fun j => ?_) (by have := filter_lt hlt hn; omega) h'
          · by_cases e : j = i
            · subst e
              rw [getD_set_true'' (by omega)]
              simp
            · rw [getD_set_ne _ (Ne.symm e), hag j]
              simp [e]
          · rw [hpe, hp1, hp2, Nat.testBit_or, Nat.testBit_two_pow, Bool.or_eq_true, ← hbit j, List.mem_cons, decide_eq_true_eq]
            constructor
            · rintro (rfl | h)
              · exact .inr rfl
              · exact .inl h
            · rintro (h | rfl)
              · exact .inr h
              · exact .inl rfl)
        rw [hp2] at hst
        exact hst
  refine key _ 0 [] _ a _ (.inl rfl) (by simp) (fun i => ?_) (fun i => by simp) ?_ h0
  · simp only [Array.getD_eq_getD_getElem?, Array.getElem?_replicate]
    split <;> simp
  · exact Nat.le_trans (List.length_filter_le _ _) (by simp)
/-- The draw itself is of no matter. -/
theorem Hold.drew (h : Hold E n sz B P st a w) (hE : EnvOK E) : Hold E n sz B P st a { w with drawn := w.drawn + 1 } := by
  obtain ⟨m, O, gs, h1, h2, h3, h4, h5, h6, h7⟩ := h
  have hb : Below w.heap.size w { w with drawn := w.drawn + 1 } := ⟨rfl, rfl, rfl, Nat.le_refl _, fun _ _ => rfl⟩
  have hs : Step (fun _ => False) m w m { w with drawn := w.drawn + 1 } := Step.of_below hb (fun _ _ => rfl)
  have hJ : E.J { w with drawn := w.drawn + 1 } := hE.keep [] _ _ (fun x hx => by cases hx) h1.J (hs.bel (fun k _ e => e.elim))
  exact ⟨m, O, gs, h1.other hs (fun _ _ h => h) hJ, h2.stab hs (fun _ _ h => h), h3, h4, h5.next hs (fun _ _ h => h.elim), B.Kn.mono _ _ _ _ h6 hs.ext, h7⟩
/-- A whole function by parts, rows beside its run. -/
theorem fun_of_hold {f : FuncId} {fn : Func} {c : Code} {F : List V → Option V} {k : Nat} (hf : E.P.funcs[f]? = some fn) (hb : fn.body = some c)
    (hcall : ∀ args w, (callFunc f args).run E.P w = .ok (.enter f args) w) (hn : fn.ntmps = n) (hk : k ≤ n) (hn1 : n ≤ 1000)
    (hbody : ∀ (us : List V) (r : V) (m : Lim) (w : World) (a : Act), F us = some r → us.all V.dat = true → (us.length = k → Hold E n sz ⟨Kno.top, fun _ => true, #[], m, w⟩ [] (start us) a w) → us.length = k ∧
      c.wpIn (fen none) 0 E.P (fun e a' w' => (e = .normal ∨ e = .ret) ∧ ∃ P' st', Hold E n sz ⟨Kno.top, fun _ => true, #[], m, w⟩ P' st' a' w' ∧ resV E st' fn.results.toList = some r) a w) : Fun E f F := by
  refine ⟨hcall, fun m w vs us r hF hdat hr hj hg => ?_⟩
  have hl : us.length = k := (hbody us r m w { tmps := vs ++ Array.replicate (n - vs.size) Go.undef, defers := [] } hF hdat (fun hl => Hold.start hr hdat hl hk hn1 hj hg trivial)).1
  refine (calls_of_hold (sz := sz) (Kn := Kno.top) (R := fun v w' => ∃ m', Rd m' w' v r ∧ Below w.heap.size w w' ∧ ∀ blk, blk < w.heap.size → m' blk = m blk) hf hb hn hk hn1 hr hdat hl hj hg trivial (fun a ha => ?_)).mono ?_
  · refine wpIn_mono (hbody us r m w a hF hdat (fun _ => ha)).2 ?_
    rintro e a' w' ⟨he, P', st', ho, hres⟩
    exact ⟨he, _, P', st', r, ho, rfl, rfl, hres, fun v m' gs h1 _ _ h4 _ _ => ⟨m', h1, h4.below (fun _ _ h => h), fun k hk => (h4.same k hk (fun h => h)).2⟩⟩
  · rintro e w' ⟨v, rfl, m', h1, h2, h3⟩
    exact ⟨v, m', rfl, h1, h2, h3⟩
end
end Go.Proofs.YtakcoalbidjahaaDoor
