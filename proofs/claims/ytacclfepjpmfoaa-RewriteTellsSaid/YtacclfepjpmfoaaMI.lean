/- Two that work by turns in one memory, each with blocks of its own: what the run holds now; steps of the other; loops over iterators. No program is named here. -/
import Derived.Test.YtacclfepjpmfoaaMPB
import Derived.RangeFuncLeaves
import Derived.RangeFuncSeq
import Derived.RangeFuncRecord
import Derived.RangeFuncIn
import Derived.Test.YtacclfepjpmfoaaMPO
namespace Go.Proofs.Ytacclfepjpmfoaa
open Go Go.RowKit

theorem wpOpIn_weak {F : Fence} {k : Nat} {P : Program} {ops : Array Oper} {i : Nat} {a : Act} {w : World} {K K' : Act → World → Prop} {Q Q' : Exit → Act → World → Prop} (hK : ∀ a' w', K a' w' → K' a' w') (hQ : ∀ e a' w', Q e a' w' → Q' e a' w') (h : wpOpIn F k P ops Q i K a w) : wpOpIn F k P ops Q' i K' a w := by
  unfold wpOpIn at h ⊢
  split
  · rename_i ho
    rw [ho] at h
    exact hK _ _ h
  · rename_i o ho
    rw [ho] at h
    simp only at h ⊢
    split
    · rename_i hw
      rw [if_pos hw] at h
      refine ⟨h.1, ?_⟩
      have h2 := h.2
      generalize (o.semAt F.round a.eval).run P w = q at h2
      have hend : ∀ (e : Ending) (w : World), (match e with | .returned v => K (a.put o.dst v) w | .panicked chain => Q (.panic chain) a w | .outgrown => LetsOut Q) →
          (match e with | .returned v => K' (a.put o.dst v) w | .panicked chain => Q' (.panic chain) a w | .outgrown => LetsOut Q') := by
        intro e w h
        cases e with
        | returned v => exact hK _ _ h
        | panicked ch => exact hQ _ _ _ h
        | outgrown => obtain ⟨a0, w0, h⟩ := h; exact ⟨a0, w0, hQ _ _ _ h⟩
      cases q with
      | ok x w' =>
        cases x <;> simp only [Oper.uponIn] at h2 ⊢ <;>
          first
            | exact hK _ _ h2
            | exact ⟨h2.1, CallsIn.mono h2.2 (fun e w'' he => by have := hend e w''; cases e <;> exact this he)⟩
            | exact ⟨h2.1, _root_.Go.RowsIn.mono h2.2 (fun v w'' he => hK _ _ he)⟩
            | exact ⟨h2.1, RoundIn.mono h2.2 (fun e w'' he => by have := hend e w''; cases e <;> exact this he)⟩
            | exact h2.elim
      | halt x w' => cases x <;> simp only [Oper.uponIn] at h2 ⊢ <;> first | exact h2.elim | exact hQ _ _ _ h2
    · rename_i hw
      rw [if_neg hw] at h
      exact ⟨h.1, hK _ _ h.2⟩
/-- Only blocks of S, and new ones, turn. -/
structure Step (S : Nat → Prop) (m : Lim) (w : World) (m' : Lim) (w' : World) : Prop where
  os : w'.os = w.os
  tape : w'.tape = w.tape
  output : w'.output = w.output
  ext : Ext m w m' w'
  same : ∀ k, k < w.heap.size → ¬ S k → w'.heap[k]? = w.heap[k]? ∧ m' k = m k
theorem Step.refl (S : Nat → Prop) (m : Lim) (w : World) : Step S m w m w := ⟨rfl, rfl, rfl, Ext.refl _ _, fun _ _ _ => ⟨rfl, rfl⟩⟩
theorem Step.next {S S1 : Nat → Prop} {m m1 m2 : Lim} {w w1 w2 : World} (h : Step S m w m1 w1) (k : Step S1 m1 w1 m2 w2) (hS : ∀ i, i < w.heap.size → S1 i → S i) : Step S m w m2 w2 := by
  refine ⟨k.os.trans h.os, k.tape.trans h.tape, k.output.trans h.output, h.ext.trans k.ext, fun i hi hn => ?_⟩
  obtain ⟨h1, h2⟩ := h.same i hi hn
  obtain ⟨k1, k2⟩ := k.same i (Nat.lt_of_lt_of_le hi h.ext.size) (fun hs => hn (hS i hi hs))
  exact ⟨k1.trans h1, k2.trans h2⟩
theorem Step.mono {S S1 : Nat → Prop} {m m' : Lim} {w w' : World} (h : Step S m w m' w') (hS : ∀ i, i < w.heap.size → S i → S1 i) : Step S1 m w m' w' :=
  ⟨h.os, h.tape, h.output, h.ext, fun k hk hn => h.same k hk (fun hs => hn (hS k hk hs))⟩
theorem Step.of_below {S : Nat → Prop} {m m' : Lim} {w w' : World} (hb : Below w.heap.size w w') (hm : ∀ k, k < w.heap.size → m' k = m k) : Step S m w m' w' :=
  ⟨hb.os, hb.tape, hb.output, Ext.of_below hb hm, fun k hk _ => ⟨hb.block k hk, hm k hk⟩⟩
theorem Step.below {S : Nat → Prop} {m m' : Lim} {w w' : World} (h : Step S m w m' w') (hS : ∀ k, k < w.heap.size → ¬ S k) : Below w.heap.size w w' :=
  ⟨h.os, h.tape, h.output, h.ext.size, fun k hk => (h.same k hk (hS k hk)).1⟩
theorem Step.bel {S : Nat → Prop} {m m' : Lim} {w w' : World} (h : Step S m w m' w') {X : List Nat} (hS : ∀ k, k < w.heap.size → S k → k ∈ X) : Bel X w w' :=
  ⟨h.os, h.tape, h.output, h.ext.size, fun k hk hx => (h.same k hk (fun hs => hx (hS k hk hs))).1⟩

open Classical in
noncomputable def lst (O : Nat → Prop) (k : Nat) : List Nat := (List.range k).filter fun i => decide (O i)
theorem mem_lst {O : Nat → Prop} {k i : Nat} : i ∈ lst O k ↔ i < k ∧ O i := by
  unfold lst
  rw [List.mem_filter, List.mem_range]
  simp

section
variable {E : Env} {n : Nat} {pm : Pm} {m0 m m' : Lim} {w0 w w' : World} {β : Nat → Nat} {st : St} {a : Act} {S O : Nat → Prop}

/-- What is the call's own is as it was: what the run holds is held here, too, reckoned from now on. -/
theorem Rel.here (h : Rel E n pm m0 w0 m β st a w) (hs : Step S m w m' w') (hS : ∀ k, k < w.heap.size → (w0.heap.size ≤ k ∨ k ∈ pm.X) → ¬ S k) {L : List Nat} (hL : ∀ k, k < w.heap.size → (w0.heap.size ≤ k ∨ k ∈ pm.X) → k ∈ L)
    (hK : ∀ x ∈ L, E.K ≤ x) (hJ : E.J w') : Rel E n ⟨L, pm.b, L, pm.D⟩ m' w' m' β st a w' := by
  have hb : ∀ g o, w.heap[g]? = some o → (w0.heap.size ≤ g ∨ g ∈ pm.X) → w'.heap[g]? = w.heap[g]? ∧ m' g = m g := fun g o hg ho => hs.same g (heap_lt hg) (hS g (heap_lt hg) ho)
  have he := hs.ext
  refine ⟨fun i => (h.tmps i).mono he, h.size, fun s cs hs => ?_, h.inj, Bel.refl _ _, ⟨h.par.1, h.par.2.1, hK⟩, ⟨fun _ _ _ => rfl, Ext.refl _ _, fun y hy => hy⟩, ?_, h.own.sub (fun i s sz len cs hi hs => ⟨i, cs, hi, rfl, hs, Nat.le_refl _, rfl, fun cur ty hh => ?_⟩), h.defers, fun g => (h.glob g).mono he, hJ, ?_⟩
  rotate_right 2
  · obtain ⟨_, hge⟩ := h.boxes s cs hs
    exact ⟨cur, ty, by rw [(hb _ _ hh hge).1]; exact hh, rfl⟩
  · refine ⟨fun i s ks vs hi => ?_, fun i j s s' ks vs ks' vs' hi hj e => h.maps.inj _ _ _ _ _ _ _ _ hi hj e⟩
    obtain ⟨⟨ents, clock, hh, hrd, h1, h2⟩, h3⟩ := h.maps.holds i s ks vs hi
    exact ⟨⟨ents, clock, by rw [(hb _ _ hh h3).1]; exact hh, hrd.mono he, h1, h2⟩, .inr (hL _ (heap_lt hh) h3)⟩
  · obtain ⟨⟨hl, vals, ty, xs, rest, hh, hx, hr⟩, hge⟩ := h.boxes s cs hs
    obtain ⟨h1, h2⟩ := hb _ _ hh hge
    exact ⟨⟨by rw [h2]; exact hl, vals, ty, xs, rest, by rw [h1]; exact hh, hx, hr.mono he⟩, .inr (hL _ (heap_lt hh) hge)⟩
  · obtain ⟨ρ, hr⟩ := h.rows
    have hB : ∀ v sz es s, Bear E w' β st (fun i => a.tmps.getD i Go.undef) v (.sl false sz es (some s)) → Bear E w β st (fun i => a.tmps.getD i Go.undef) v (.sl false sz es (some s)) := fun v sz es s hi =>
      hi.from (fun i hi => .inl ⟨i, hi, rfl⟩) (fun k cs j h1 h2 h3 h4 => by
        obtain ⟨⟨_, vals, ty, xs, rest, hh, _, _⟩, hge⟩ := h.boxes k cs h2
        rw [cell_block (hb _ _ hh hge).1] at h4
        exact .inr ⟨k, cs, j, h1, h2, h3, h4⟩)
    refine ⟨ρ, fun v sz es s hi => ?_, fun v sz es s v' sz' es' s' hi hi' e => hr.sep _ _ _ _ _ _ _ _ (hB _ _ _ _ hi) (hB _ _ _ _ hi') e, fun v sz es s k cs hi hk => hr.box _ _ _ _ _ _ (hB _ _ _ _ hi) hk⟩
    obtain ⟨lo, lim, cap, cur, ty, hv, hh, hc, hsz⟩ := hr.row v sz es s (hB _ _ _ _ hi)
    have hge := lo.imp id (h.mold.2.2 _)
    obtain ⟨h1, h2⟩ := hb _ _ hh hge
    exact ⟨.inr (hL _ (heap_lt hh) hge), by rw [h2]; exact lim, cap, cur, ty, hv, by rw [h1]; exact hh, hc, hsz⟩

/-- What the run holds now; O: the blocks that are its own. -/
structure Now (E : Env) (n : Nat) (D : List Deferred) (O : Nat → Prop) (m : Lim) (st : St) (a : Act) (w : World) : Prop where
  rel : ∃ b β, Rel E n ⟨lst O w.heap.size, b, lst O w.heap.size, D⟩ m w m β st a w
  lt : ∀ k, O k → k < w.heap.size

theorem Now.J {D : List Deferred} (h : Now E n D O m st a w) : E.J w := by obtain ⟨_, _, h⟩ := h.rel; exact h.j
theorem Now.K {D : List Deferred} (h : Now E n D O m st a w) : ∀ k, O k → E.K ≤ k := fun k hk => by
  obtain ⟨_, _, hr⟩ := h.rel
  exact hr.par.2.2 k (mem_lst.2 ⟨h.lt k hk, hk⟩)

/-- A step of another. -/
theorem Now.other {D : List Deferred} (h : Now E n D O m st a w) (hs : Step S m w m' w') (hS : ∀ k, O k → ¬ S k) (hJ : E.J w') : Now E n D O m' st a w' := by
  have hK := h.K
  obtain ⟨⟨b, β, hr⟩, hlt⟩ := h
  refine ⟨⟨b, β, hr.here hs (fun k hk ho => ?_) (fun k hk ho => ?_) (fun x hx => hK x (mem_lst.1 hx).2) hJ⟩, fun k hk => Nat.lt_of_lt_of_le (hlt k hk) hs.ext.size⟩
  · rcases ho with ho | ho
    · exact absurd hk (Nat.not_lt.2 ho)
    · exact hS k (mem_lst.1 ho).2
  · rcases ho with ho | ho
    · exact absurd hk (Nat.not_lt.2 ho)
    · exact mem_lst.2 ⟨Nat.lt_of_lt_of_le hk hs.ext.size, (mem_lst.1 ho).2⟩

/-- A new call: nothing but data. -/
theorem Now.first {D : List Deferred} {b : Nat → Nat} (h : Rel E n ⟨[], b, [], D⟩ m w m β st a w) : Now E n D (fun _ => False) m st a w :=
  ⟨⟨b, β, by
    have := h.here (Step.refl (fun _ => False) m w) (fun _ _ _ h => h) (L := lst (fun _ => False) w.heap.size) (fun k hk ho => by
      rcases ho with ho | ho
      · exact absurd hk (Nat.not_lt.2 ho)
      · cases ho) (fun x hx => (mem_lst.1 hx).2.elim) h.j
    exact this⟩, fun _ h => h.elim⟩

/-- The blocks that are the call's own behind a part of its run. -/
def grew (O : Nat → Prop) (w w' : World) (k : Nat) : Prop := k < w'.heap.size ∧ (O k ∨ w.heap.size ≤ k)
theorem Now.of_rel {D : List Deferred} {b : Nat → Nat} {m' : Lim} {w' : World} {β' : Nat → Nat} {st' : St} {a' : Act} (hE : EnvOK E) (hlt : ∀ k, O k → k < w.heap.size) (h : Rel E n ⟨lst O w.heap.size, b, lst O w.heap.size, D⟩ m w m' β' st' a' w') :
    Now E n D (grew O w w') m' st' a' w' ∧ Step O m w m' w' := by
  have hsz := h.below.size
  have hJ := hE.keep _ _ _ h.par.2.2 h.j h.below
  refine ⟨⟨⟨b, β', ?_⟩, fun k hk => hk.1⟩, ⟨h.below.os, h.below.tape, h.below.output, h.mold.2.1, fun k hk hn => ⟨h.below.block k hk (fun hx => hn (mem_lst.1 hx).2), h.mold.1 k hk (fun hx => hn (mem_lst.1 hx).2)⟩⟩⟩
  refine h.here (Step.refl (fun _ => False) m' w') (fun _ _ _ h => h) (fun k hk ho => mem_lst.2 ⟨hk, hk, ?_⟩) (fun x hx => ?_) hJ
  · rcases ho with ho | ho
    · exact .inr ho
    · exact .inl (mem_lst.1 ho).2
  · obtain ⟨hx1, hx2, hx3⟩ := mem_lst.1 hx
    rcases hx3 with hx3 | hx3
    · exact h.par.2.2 x (mem_lst.2 ⟨hlt x hx3, hx3⟩)
    · exact Nat.le_trans (hE.high _ h.j) hx3

def outE : Exit → Option Out
  | .normal => some .normal
  | .ret => some .ret
  | .exit id => some (.exit id)
  | _ => none
/-- The end of a part of a run. -/
def postN (W : Nat → Bool) (E : Env) (n : Nat) (D : List Deferred) (O : Nat → Prop) (m : Lim) (a : Act) (w : World) (K : Out → St → Prop) : Exit → Act → World → Prop :=
  fun e a' w' => KeepT W a.tmps a'.tmps ∧ ∃ o st' m', outE e = some o ∧ K o st' ∧ Now E n D (grew O w w') m' st' a' w' ∧ Step O m w m' w'
theorem run_now {r : Option Nat} {W : Nat → Bool} {D : List Deferred} (hE : EnvOK E) (hm : E.P.follows .mixedOrders = true) {c : Code} {K : Out → St → Prop} (hok : okCode E.any n c = true) (hW : wrC W c = true) (h : Now E n D O m st a w) (hr : run E c st K) :
    c.wpIn (fen r) 0 E.P (postN W E n D O m a w K) a w := by
  obtain ⟨⟨b, β, hrel⟩, hlt⟩ := h
  refine wpIn_mono (run_soundW hE.x hm c K st a w m β hok hW hrel hr) ?_
  rintro e a' w' ⟨hp, hk⟩
  have fin : ∀ o, (∃ st' m' β', K o st' ∧ Rel E n ⟨lst O w.heap.size, b, lst O w.heap.size, D⟩ m w m' β' st' a' w') → outE e = some o → postN W E n D O m a w K e a' w' := by
    rintro o ⟨st', m', β', h1, h2⟩ ho
    obtain ⟨h3, h4⟩ := Now.of_rel hE hlt h2
    exact ⟨hk, o, st', m', ho, h1, h3, h4⟩
  cases e with
  | normal => exact fin _ hp rfl
  | ret => exact fin _ hp rfl
  | exit id => exact fin _ hp rfl
  | goto l => exact hp.elim
  | panic ch => exact hp.elim
  | outgrown => exact hp.elim

/-- What is known is less. -/
theorem Now.le {D : List Deferred} {st' : St} (h : Now E n D O m st a w) (hl : Le st' st) : Now E n D O m st' a w := by
  obtain ⟨⟨b, β, hr⟩, hlt⟩ := h
  exact ⟨⟨b, β, hr.le hl⟩, hlt⟩
/-- The slots of W are forgotten. -/
def cut (W : Nat → Bool) (st : St) : St := ⟨fun i => bif W i then .undef else st.t i, st.b⟩
/-- A slot gets a value that is data. -/
theorem Now.put {D : List Deferred} (h : Now E n D O m st a w) {d : Tmp} (hd : d < n) {v : Value} {u : V} (hv : Rd m w v u) : Now E n D O m (st.put (some d) u.bare) (a.put (some d) v) w := by
  obtain ⟨⟨b, β, hr⟩, hlt⟩ := h
  exact ⟨⟨b, β, hr.put (fun k hk => by cases hk; exact hd) (.of hv.bare) (bare_tok _) (fun s sz len cs e => by have e : u.bare = _ := e; exact (e ▸ hv.bare).not_row.elim) (fun s ks vs e => by have e : u.bare = _ := e; exact (e ▸ hv.bare).not_mp.elim)⟩, hlt⟩
end
end Go.Proofs.Ytacclfepjpmfoaa

/- Loops over iterators: the iterator's contract, and the loop by the run of one round. No program is named here. -/
namespace Go.Proofs.Ytacclfepjpmfoaa
open Go Go.RowKit

noncomputable def putL : List Tmp → List V → St → St
  | p :: ps, u :: us, st => putL ps us (st.put (some p) u.bare)
  | _, _, st => st
def roundK (W : Nat → Bool) (Inv : List (List V) → Prop) (I : List (List V) → St) (Jx : Code → List (List V) → St → Prop) (pre : List (List V)) : Out → St → Prop
  | .normal, st => Inv pre ∧ Le (I pre) (cut W st)
  | .ret, st => Jx .ret pre (cut W st)
  | .exit id, st => Jx (.exit id) pre (cut W st)
def assignK (E : Env) (body : Code) (K : Out → St → Prop) : Out → St → Prop
  | .normal, st => run E body st K
  | _, _ => False
abbrev markD (b : Nat) : Deferred := { target := .collected b, args := #[] }

section
variable {E : Env} {n : Nat} {m : Lim} {w : World} {st : St} {a : Act} {O : Nat → Prop} {D : List Deferred}

/-- What the other keeps: nothing of it turns by steps that leave its own blocks alone. -/
structure Holds (E : Env) (A : (Nat → Prop) → Lim → World → Prop) : Prop where
  stab : ∀ O m1 w1 S m2 w2, A O m1 w1 → Step S m1 w1 m2 w2 → (∀ k, O k → ¬ S k) → E.J w2 → A O m2 w2
  lt : ∀ O m1 w1, A O m1 w1 → ∀ k, O k → k < w1.heap.size ∧ E.K ≤ k
end
end Go.Proofs.Ytacclfepjpmfoaa

/- The iterator's side: its own run, and what it leaves alone; a call of yield; loops by what holds at the head. No program is named here. -/
namespace Go.Proofs.Ytacclfepjpmfoaa
open Go Go.RowKit

theorem wpIn_loopX {F : Fence} {k : Nat} {P : Program} {c : Code} {Q : Exit → Act → World → Prop} {a : Act} {w : World} {X : Type} (J : X → Act → World → Prop) (μ : X → Nat) (x0 : X) (h0 : J x0 a w)
    (hround : ∀ x a w, J x a w → c.wpIn F k P (fun e a' w' => match e with | .normal => ∃ x', J x' a' w' ∧ μ x' < μ x | e => Q e a' w') a w) : (Code.loop c).wpIn F k P Q a w := by
  let S : Act → World → Nat → Prop := fun a w k => ∃ x, μ x = k ∧ J x a w
  let ν : Act → World → Nat := fun a w => Classical.epsilon fun k => S a w k ∧ ∀ j, S a w j → k ≤ j
  have hspec : ∀ a w, (∃ k, S a w k) → S a w (ν a w) ∧ ∀ j, S a w j → ν a w ≤ j := fun a w ⟨k, hk⟩ => Classical.epsilon_spec (least _ k hk)
  refine wpIn_loop (fun a w => ∃ k, S a w k) ν ⟨_, x0, rfl, h0⟩ ?_
  intro a1 w hS
  obtain ⟨x, hx, hj⟩ := (hspec a1 w hS).1
  refine wpIn_mono (hround x a1 w hj) ?_
  intro e a' w' he
  cases e with
  | normal =>
    obtain ⟨x', hj', hlt⟩ := he
    have hS' : S a' w' (μ x') := ⟨x', rfl, hj'⟩
    have : ν a' w' ≤ μ x' := (hspec a' w' ⟨_, hS'⟩).2 _ hS'
    exact ⟨⟨_, hS'⟩, by omega⟩
  | exit id => exact he
  | goto l => exact he
  | ret => exact he
  | panic ch => exact he
  | outgrown => exact he

section
variable {E : Env} {n : Nat} {m : Lim} {w : World} {st : St} {a : Act} {O : Nat → Prop}

/-- Both, since (ms, ws). -/
def Two (E : Env) (n : Nat) (Os : Nat → Prop) (ms : Lim) (ws : World) (A : (Nat → Prop) → Lim → World → Prop) (st : St) (a : Act) (w : World) : Prop :=
  ∃ m Oi O, Now E n [] Oi m st a w ∧ A O m w ∧ (∀ k, O k → ¬ Oi k) ∧ (∀ k, Oi k → ws.heap.size ≤ k) ∧ (∀ k, O k → Os k ∨ ws.heap.size ≤ k) ∧ Step Os ms ws m w
variable {Os : Nat → Prop} {ms : Lim} {ws : World} {A : (Nat → Prop) → Lim → World → Prop}
theorem Two.le {st' : St} (h : Two E n Os ms ws A st a w) (hl : Le st' st) : Two E n Os ms ws A st' a w := by
  obtain ⟨m, Oi, O, h1, h2⟩ := h
  exact ⟨m, Oi, O, h1.le hl, h2⟩
theorem Two.mono {A' : (Nat → Prop) → Lim → World → Prop} (h : Two E n Os ms ws A st a w) (hA : ∀ O m w, A O m w → A' O m w) : Two E n Os ms ws A' st a w := by
  obtain ⟨m, Oi, O, h1, h2, h3⟩ := h
  exact ⟨m, Oi, O, h1, hA _ _ _ h2, h3⟩
theorem Two.grown {m' : Lim} {w' : World} {a' : Act} {st' : St} {Oi : Nat → Prop} (hA : Holds E A) (h2 : A O m w) (h3 : ∀ k, O k → ¬ Oi k) (h4 : ∀ k, Oi k → ws.heap.size ≤ k) (h5 : ∀ k, O k → Os k ∨ ws.heap.size ≤ k) (h6 : Step Os ms ws m w)
    (hn : Now E n [] (grew Oi w w') m' st' a' w') (hs : Step Oi m w m' w') : Two E n Os ms ws A st' a' w' := by
  refine ⟨m', _, O, hn, hA.stab _ _ _ _ _ _ h2 hs h3 hn.J, fun k hk hg => ?_, fun k hg => ?_, h5, h6.next hs (fun i hi ho => absurd hi (Nat.not_lt.2 (h4 i ho)))⟩
  · rcases hg.2 with hg | hg
    · exact h3 k hk hg
    · exact absurd (hA.lt _ _ _ h2 k hk).1 (Nat.not_lt.2 hg)
  · rcases hg.2 with hg | hg
    · exact h4 k hg
    · exact Nat.le_trans h6.ext.size hg
/-- What a call holds at its beginning. -/
theorem rel_start {vs : Array Value} {us : List V} {k : Nat} (hr : RdL m w vs.toList us) (hdat : us.all V.dat = true) (hl : us.length = k) (hk : k ≤ n) (hn1 : n ≤ 1000) (hj : E.J w) (hg : ∀ g, Rd m w (.pointer (some ⟨g, 0, none⟩)) (E.G g)) :
    Rel E n ⟨[], id, [], []⟩ m w m id (start us) { tmps := vs ++ Array.replicate (n - vs.size) Go.undef, defers := [] } w := by
  have hlen := hr.length
  simp only [Array.length_toList] at hlen
  have hat : ∀ i, (start us).t i = (us[i]?).getD .undef := fun i => by
    have := startT_at us 0 i
    simpa [start] using this
  have hnot : ∀ i sz es s, (start us).t i = .sl false sz es (some s) → False := by
    intro i sz es s hi
    rw [hat i] at hi
    cases hu : us[i]? with
    | none => rw [hu] at hi; cases hi
    | some u =>
      rw [hu] at hi
      simp only [Option.getD_some] at hi
      have := List.all_eq_true.1 hdat u (List.mem_of_getElem? hu)
      rw [hi] at this
      simp [V.dat] at this
  have hnomp : ∀ i s ks vs, (start us).t i = .mp s ks vs → False := by
    intro i s ks vs hi
    rw [hat i] at hi
    cases hu : us[i]? with
    | none => rw [hu] at hi; cases hi
    | some u =>
      rw [hu] at hi
      simp only [Option.getD_some] at hi
      have := List.all_eq_true.1 hdat u (List.mem_of_getElem? hu)
      rw [hi] at this
      simp [V.dat] at this
  have hnob : ∀ v sz es s, Bear E w id (start us) (fun i => (vs ++ Array.replicate (n - vs.size) Go.undef).getD i Go.undef) v (.sl false sz es (some s)) → False := by
    intro v sz es s hi
    rcases hi with ⟨i, h1, _⟩ | ⟨k', c, j, _, h2, _⟩
    · exact hnot i sz es s h1
    · simp [start] at h2
  refine ⟨fun i => ?_, by simp; omega, fun s cs hs => by simp [start] at hs, fun s s' cs cs' hs => by simp [start] at hs, Bel.refl _ _, ⟨hn1, fun _ _ => rfl, fun x hx => by cases hx⟩, ⟨fun _ _ _ => rfl, Ext.refl _ _, fun x hx => by cases hx⟩, ⟨id, fun v sz es s hi => (hnob v sz es s hi).elim, fun v sz es s v' sz' es' s' hi => (hnob v sz es s hi).elim, fun v sz es s k cs hi => (hnob v sz es s hi).elim⟩, fun i s sz len cs hi hs => by simp [start] at hs, rfl, hg, hj, ⟨fun i s ks vs hi => (hnomp i s ks vs hi).elim, fun i j s s' ks vs ks' vs' hi => (hnomp i s ks vs hi).elim⟩⟩
  show Rs m w id _ ((start us).t i)
  rw [hat i]
  rcases Nat.lt_or_ge i us.length with h' | h'
  · have hu : us[i]? = some us[i] := List.getElem?_eq_getElem h'
    have hv : vs.toList[i]? = some (vs[i]'(by omega)) := by simp
    rw [hu]
    have h1 : (vs ++ Array.replicate (n - vs.size) Go.undef).getD i Go.undef = vs[i]'(by omega) := by
      rw [Array.getD_eq_getD_getElem?, Array.getElem?_append_left (by omega), Array.getElem?_eq_getElem (by omega)]; rfl
    simp only [h1, Option.getD_some]
    exact .of (hr.get i _ _ hv hu)
  · rw [List.getElem?_eq_none h']
    exact .of (.undef _)

end
end Go.Proofs.Ytacclfepjpmfoaa

/- The same, with states written out. No program is named here. -/
namespace Go.Proofs.Ytacclfepjpmfoaa
open Go Go.RowKit

/-- Where a part of a run ends: behind it, with so much known. -/
def endT (ts : List (Nat × V)) (bs : List (Nat × List V)) : Out → St → Prop
  | .normal, st => leT st ts ∧ leB st bs
  | .ret, _ => False
  | .exit _, _ => False
/-- .. by a way out. -/
def endX (id : Nat) (ts : List (Nat × V)) (bs : List (Nat × List V)) : Out → St → Prop
  | .normal, _ => False
  | .ret, _ => False
  | .exit i, st => i = id ∧ leT st ts ∧ leB st bs
/-- .. by a return. -/
def endR (ts : List (Nat × V)) (bs : List (Nat × List V)) : Out → St → Prop
  | .normal, _ => False
  | .ret, st => leT st ts ∧ leB st bs
  | .exit _, _ => False
section
variable (ts : List (Nat × V)) (bs : List (Nat × List V)) (st : St) (id i : Nat)
theorem endR_normal : endR ts bs .normal st = False := rfl
theorem endR_ret : endR ts bs .ret st = (leT st ts ∧ leB st bs) := rfl
theorem endR_exit : endR ts bs (.exit id) st = False := rfl
theorem endT_normal : endT ts bs .normal st = (leT st ts ∧ leB st bs) := rfl
theorem endT_ret : endT ts bs .ret st = False := rfl
theorem endT_exit : endT ts bs (.exit id) st = False := rfl
theorem endX_normal : endX id ts bs .normal st = False := rfl
theorem endX_ret : endX id ts bs .ret st = False := rfl
theorem endX_exit : endX id ts bs (.exit i) st = (i = id ∧ leT st ts ∧ leB st bs) := rfl
end
attribute [go_sem] endR_normal endR_ret endR_exit endT_normal endT_ret endT_exit endX_normal endX_ret endX_exit

section
variable {E : Env} {n : Nat} {ms : Lim} {ws : World} {st : St} {a : Act} {w : World} {Os : Nat → Prop} {A : (Nat → Prop) → Lim → World → Prop}
theorem range_ops (ops : List Oper) (k j : Nat) (h : k + j ≤ ops.length) : ((List.range' k j).map fun i => ops[i]?) = ((ops.drop k).take j).map some := by
  apply List.ext_getElem?
  intro i
  rw [List.getElem?_map, List.getElem?_map, List.getElem?_take]
  by_cases hi : i < j
  · rw [List.getElem?_range' hi, if_pos hi, List.getElem?_drop]
    simp only [Option.map_some, Nat.one_mul]
    rw [List.getElem?_eq_getElem (by omega)]
    rfl
  · rw [if_neg hi, List.getElem?_eq_none (by simp; omega)]
    rfl
end
end Go.Proofs.Ytacclfepjpmfoaa

/- A call that goes over iterators: its own run, part by part; calls by what they make of the very values; its end. No program is named here. -/
namespace Go.Proofs.Ytacclfepjpmfoaa
open Go Go.RowKit

/-- The marks for the call's end. -/
structure Marks (D : List Deferred) (O : Nat → Prop) (lo : Nat) (w : World) : Prop where
  nd : D.Nodup
  is : ∀ d ∈ D, ∃ b, d = markD b ∧ lo ≤ b ∧ w.heap[b]? = some (.deferred (some [])) ∧ ¬ O b
/-- What is known beside: kept while memory only grows. -/
structure Kno where
  P : Lim → World → Prop
  mono : ∀ m w m' w', P m w → Ext m w m' w' → P m' w'
def Kno.top : Kno := ⟨fun _ _ => True, fun _ _ _ _ _ _ => trivial⟩
/-- .. that a value means so much. -/
def Kno.rd (v : Value) (u : V) : Kno := ⟨fun m w => Rd m w v u, fun _ _ _ _ h he => h.mono he⟩
/-- What a part of a run is reckoned from: the marks so far; what is known beside; which slots may be written, and what the slots held; what was the call's own; memory. -/
structure Bs where
  D : List Deferred
  Kn : Kno
  W : Nat → Bool
  t0 : Array Value
  Os : Nat → Prop
  ms : Lim
  ws : World
/-- A call's own run. -/
def One (E : Env) (n : Nat) (B : Bs) (st : St) (a : Act) (w : World) : Prop :=
  ∃ m O, Now E n B.D O m st a w ∧ (∀ k, O k → B.Os k ∨ B.ws.heap.size ≤ k) ∧ Step B.Os B.ms B.ws m w ∧ Marks B.D O B.ws.heap.size w ∧ B.Kn.P m w ∧ KeepT B.W B.t0 a.tmps
theorem assignK_normal (E : Env) (body : Code) (K : Out → St → Prop) (st : St) : assignK E body K .normal st = run E body st K := rfl
section
variable (W : Nat → Bool) (Inv : List (List V) → Prop) (I : List (List V) → St) (Jx : Code → List (List V) → St → Prop) (pre : List (List V)) (st : St) (id : Nat)
theorem roundK_normal : roundK W Inv I Jx pre .normal st = (Inv pre ∧ Le (I pre) (cut W st)) := rfl
theorem roundK_ret : roundK W Inv I Jx pre .ret st = Jx .ret pre (cut W st) := rfl
theorem roundK_exit : roundK W Inv I Jx pre (.exit id) st = Jx (.exit id) pre (cut W st) := rfl
theorem cut_t (i : Nat) : (cut W st).t i = bif W i then .undef else st.t i := rfl
theorem cut_b (i : Nat) : (cut W st).b i = st.b i := rfl
theorem putL_cons (p : Tmp) (ps : List Tmp) (u : V) (us : List V) (s : St) : putL (p :: ps) (u :: us) s = putL ps us (s.put (some p) u.bare) := rfl
theorem putL_nil (us : List V) (s : St) : putL [] us s = s := by cases us <;> rfl
end
attribute [go_sem] assignK_normal roundK_normal roundK_ret roundK_exit cut_t cut_b putL_cons putL_nil
section
variable {E : Env} {n : Nat} {D : List Deferred} {B : Bs} {m ms : Lim} {ws w : World} {st : St} {a : Act} {O : Nat → Prop} {r : Option Nat}
theorem One.le {st' : St} (h : One E n B st a w) (hl : Le st' st) : One E n B st' a w := by
  obtain ⟨m, O, h1, h2⟩ := h
  exact ⟨m, O, h1.le hl, h2⟩
theorem One.grown {m' : Lim} {w' : World} {a' : Act} {st' : St} (h2 : ∀ k, O k → B.Os k ∨ B.ws.heap.size ≤ k) (h3 : Step B.Os B.ms B.ws m w) (h4 : Marks B.D O B.ws.heap.size w) (h5 : B.Kn.P m w) (hkt : KeepT B.W B.t0 a'.tmps)
    (hn : Now E n B.D (grew O w w') m' st' a' w') (hs : Step O m w m' w') : One E n B st' a' w' := by
  refine ⟨m', _, hn, fun k hg => ?_, h3.next hs (fun i hi ho => (h2 i ho).resolve_right (Nat.not_le.2 hi)), ⟨h4.nd, fun d hd => ?_⟩, B.Kn.mono _ _ _ _ h5 hs.ext, hkt⟩
  · rcases hg.2 with hg | hg
    · exact h2 k hg
    · exact .inr (Nat.le_trans h3.ext.size hg)
  · obtain ⟨b, rfl, q1, q2, q3⟩ := h4.is d hd
    refine ⟨b, rfl, q1, (hs.same b (heap_lt q2) q3).1.trans q2, fun hg => ?_⟩
    rcases hg.2 with hg | hg
    · exact q3 hg
    · exact absurd (heap_lt q2) (Nat.not_lt.2 hg)
/-- A step by others' hands, and what a slot then holds. -/
theorem One.after {Kn' : Kno} {m' : Lim} {w' : World} {d : Tmp} (hd : d < n) {v : Value} {u : V} (h1 : Now E n B.D O m st a w) (h2 : ∀ k, O k → B.Os k ∨ B.ws.heap.size ≤ k) (h3 : Step B.Os B.ms B.ws m w) (h4 : Marks B.D O B.ws.heap.size w) (h6 : KeepT B.W B.t0 a.tmps) (hWd : B.W d = true) (hs : Step (fun _ => False) m w m' w') (hJ : E.J w') (hv : Rd m' w' v u) (hk : Kn'.P m' w') :
    One E n { B with Kn := Kn' } (st.put (some d) u.bare) (a.put (some d) v) w' := by
  refine ⟨m', O, (h1.other hs (fun _ _ h => h) hJ).put hd hv, h2, h3.next hs (fun _ _ h => h.elim), ⟨h4.nd, fun x hx => ?_⟩, hk, h6.put (fun k e => by cases e; exact hWd)⟩
  obtain ⟨b, rfl, q1, q2, q3⟩ := h4.is x hx
  exact ⟨b, rfl, q1, (hs.same b (heap_lt q2) (fun h => h)).1.trans q2, q3⟩
/-- How a round ends, with states written out. -/
def roundT (W : Nat → Bool) (Inv : List (List V) → Prop) (T : List (List V) → List (Nat × V)) (B : List (List V) → List (Nat × List V)) (Rx : Prop) (TX : List (Nat × V)) (BX : List (Nat × List V)) (pre : List (List V)) : Out → St → Prop
  | .normal, st => Inv pre ∧ leT (cut W st) (T pre) ∧ leB st (B pre)
  | .ret, st => Rx ∧ leT (cut W st) TX ∧ leB st BX
  | .exit _, _ => False
theorem roundT_normal (W : Nat → Bool) (Inv : List (List V) → Prop) (T : List (List V) → List (Nat × V)) (B : List (List V) → List (Nat × List V)) (Rx : Prop) (TX : List (Nat × V)) (BX : List (Nat × List V)) (pre : List (List V)) (st : St) : roundT W Inv T B Rx TX BX pre .normal st = (Inv pre ∧ leT (cut W st) (T pre) ∧ leB st (B pre)) := rfl
theorem roundT_ret (W : Nat → Bool) (Inv : List (List V) → Prop) (T : List (List V) → List (Nat × V)) (B : List (List V) → List (Nat × List V)) (Rx : Prop) (TX : List (Nat × V)) (BX : List (Nat × List V)) (pre : List (List V)) (st : St) : roundT W Inv T B Rx TX BX pre .ret st = (Rx ∧ leT (cut W st) TX ∧ leB st BX) := rfl
attribute [go_sem] roundT_normal roundT_ret
end
end Go.Proofs.Ytacclfepjpmfoaa
