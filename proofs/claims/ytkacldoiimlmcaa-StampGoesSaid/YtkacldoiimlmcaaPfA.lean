/- Plain data that lies in memory: what a value means, whatever addresses it has; kept while memory only grows. No program is named here. -/
import Derived.WalkKit
import Derived.WalkSmall
namespace Go.Proofs.Ytkacldoiimlmcaa
open Go Go.RowKit

/-- A value as plain data. 'sl': a slice by what it holds; 'ptr': the address of a variable of the call's own, named by its slot; 'ip': an address of memory that nobody writes. -/
inductive V where
  | x (v : Value)
  | agg (cs : List V)
  | tup (vs : List V)
  | sl (nl : Bool) (sz : Nat) (es : List V) (tok : Option Nat)
  | ptr (s off : Nat)
  | ip (cs : List V)
  /-- A value of an interface type that is not nil: of which type it is is known, nothing more. -/
  | dyn (t : TypeId)
  /-- A row of the call's own whose elements may be written: the variable of slot s holds them, one behind the other. -/
  | row (s sz len : Nat)
  /-- As an argument: the address of a variable, to be read and written, and what it holds. -/
  | bx (cs : List V)
  /-- A map of the call's own, named by its slot: its keys, and what each has. -/
  | mp (s : Nat) (ks vs : List V)
  /-- A map that nobody writes. -/
  | fm (ks vs : List V)
  | undef

abbrev V.int (k : IntKind) (n : Int) : V := .x (.int k n)
abbrev V.bool (b : Bool) : V := .x (.bool b)
abbrev V.str (s : ByteArray) : V := .x (.string s)

def V.cells : V → List V
  | .agg cs => cs
  | v => [v]

/-- May lie in memory, and may be handed to a call. -/
def V.dat : V → Bool
  | .undef => false
  | .ptr .. => false
  | .row .. => false
  | .bx _ => false
  | .mp .. => false
  | .x (.agg _) => false
  | .x (.tuple _) => false
  | .tup _ => false
  | .sl _ _ _ (some _) => false
  | _ => true
/-- What is plain to the last cell has one form. -/
def V.one : V → Option Value
  | .x v => some v
  | _ => none
def V.val : V → Option Value
  | .x v => some v
  | .agg cs => (cs.mapM V.one).map fun l => .agg l.toArray
  | _ => none
/- Maps: keys that are numbers, truths, texts, or structs of such. -/
/-- Is it plain to the last cell? -/
def plainK : V → Bool
  | .x (.int _ _) => true
  | .x (.string _) => true
  | .x (.bool _) => true
  | .agg cs => cs.all fun c => match c with | .x (.int _ _) => true | .x (.string _) => true | .x (.bool _) => true | _ => false
  | _ => false

/-- How far a block's cells stay as they are: 'none': all of them. -/
abbrev Lim := Nat → Option Nat

/-- 'v' means 'V' in the world w. -/
inductive Rd (m : Lim) (w : World) : Value → V → Prop
  | undef (v : Value) : Rd m w v .undef
  | x (v : Value) : Rd m w v (.x v)
  | dyn (t : TypeId) (v : Value) : Rd m w (.iface t v) (.dyn t)
  | agg (cs : Array Value) (Cs : List V) (hl : cs.size = Cs.length)
      (h : ∀ (i : Nat) (v : Value) (u : V), cs[i]? = some v → Cs[i]? = some u → Rd m w v u) : Rd m w (.agg cs) (.agg Cs)
  | tup (cs : Array Value) (Cs : List V) (hl : cs.size = Cs.length)
      (h : ∀ (i : Nat) (v : Value) (u : V), cs[i]? = some v → Cs[i]? = some u → Rd m w v u) : Rd m w (.tuple cs) (.tup Cs)
  | nil (sz : Nat) (tok : Option Nat) : Rd m w (.slice none 0 0) (.sl true sz [] tok)
  | sl (blk off cap sz : Nat) (es : List V) (tok : Option Nat) (c : Nat → Value) (hb : blk < w.heap.size) (hcap : es.length ≤ cap)
      (hsz : ∀ (i : Nat) (e : V), es[i]? = some e → e.cells.length = sz)
      (hc : ∀ k, k < es.length * sz → w.cell? ⟨blk, off + k, none⟩ = some (c k))
      (hm : ∀ fr, m blk = some fr → off + es.length * sz ≤ fr)
      (hr : ∀ (i : Nat) (e : V), es[i]? = some e → ∀ (j : Nat) (d : V), e.cells[j]? = some d → Rd m w (c (i * sz + j)) d) :
      Rd m w (.slice (some ⟨blk, off, none⟩) es.length cap) (.sl false sz es tok)
  /-- A slice of nothing, wherever it points. -/
  | emp (a : Addr) (cap sz : Nat) : Rd m w (.slice (some a) 0 cap) (.sl false sz [] none)
  | ip (blk off : Nat) (cs : List V) (c : Nat → Value) (hb : blk < w.heap.size)
      (hc : ∀ k, k < cs.length → w.cell? ⟨blk, off + k, none⟩ = some (c k))
      (hm : ∀ fr, m blk = some fr → off + cs.length ≤ fr)
      (hr : ∀ (k : Nat) (d : V), cs[k]? = some d → Rd m w (c k) d) : Rd m w (.pointer (some ⟨blk, off, none⟩)) (.ip cs)
  | fm (blk : Nat) (ks vs : List V) (ents : Array MapEntry) (clock : Nat) (hb : blk < w.heap.size) (hh : w.heap[blk]? = some (.map ents clock)) (hm : m blk = none)
      (hk : ents.size = ks.length) (hv : ents.size = vs.length) (hkey : ∀ (i : Nat) (e : MapEntry) (k : V), ents[i]? = some e → ks[i]? = some k → plainK k = true ∧ k.val = some e.key)
      (hbn : (∀ e ∈ ents.toList, e.born < clock) ∧ (ents.toList.map (·.born)).Nodup) (hd : ∀ (i : Nat) (d : V), vs[i]? = some d → d.dat = true)
      (hr : ∀ (i : Nat) (e : MapEntry) (d : V), ents[i]? = some e → vs[i]? = some d → Rd m w e.val d) : Rd m w (.map (some blk)) (.fm ks vs)

/-- Memory that has grown: what was to stay as it is has stayed. -/
structure Ext (m : Lim) (w : World) (m' : Lim) (w' : World) : Prop where
  size : w.heap.size ≤ w'.heap.size
  cell : ∀ blk off v, blk < w.heap.size → (∀ fr, m blk = some fr → off < fr) → w.cell? ⟨blk, off, none⟩ = some v → w'.cell? ⟨blk, off, none⟩ = some v
  lim : ∀ blk, blk < w.heap.size → ∀ fr', m' blk = some fr' → ∃ fr, m blk = some fr ∧ fr ≤ fr'
  map : ∀ blk es c, m blk = none → w.heap[blk]? = some (.map es c) → w'.heap[blk]? = some (.map es c)

theorem Ext.refl (m : Lim) (w : World) : Ext m w m w := ⟨Nat.le_refl _, fun _ _ _ _ _ h => h, fun _ _ fr' h => ⟨fr', h, Nat.le_refl _⟩, fun _ _ _ _ h => h⟩
theorem Ext.noLim {m m' : Lim} {w w' : World} (h : Ext m w m' w') {blk : Nat} (hb : blk < w.heap.size) (hm : m blk = none) : m' blk = none := by
  cases h' : m' blk with
  | none => rfl
  | some fr =>
    obtain ⟨fr', h1, _⟩ := h.lim blk hb fr h'
    rw [hm] at h1
    cases h1
theorem map_lt {w : World} {k : Nat} {es : Array MapEntry} {c : Nat} (h : w.heap[k]? = some (.map es c)) : k < w.heap.size := by
  by_cases hk : k < w.heap.size
  · exact hk
  · rw [Array.getElem?_eq_none (by omega)] at h
    cases h
theorem Ext.trans {m m1 m2 : Lim} {w w1 w2 : World} (h : Ext m w m1 w1) (k : Ext m1 w1 m2 w2) : Ext m w m2 w2 := by
  refine ⟨Nat.le_trans h.size k.size, fun blk off v hb hm hc => ?_, fun blk hb fr' h' => ?_, fun blk es c hm hc => ?_⟩
  · refine k.cell blk off v (Nat.lt_of_lt_of_le hb h.size) (fun fr hf => ?_) (h.cell blk off v hb hm hc)
    obtain ⟨fr0, h0, hle⟩ := h.lim blk hb fr hf
    exact Nat.lt_of_lt_of_le (hm fr0 h0) hle
  · obtain ⟨fr1, h1, hle⟩ := k.lim blk (Nat.lt_of_lt_of_le hb h.size) fr' h'
    obtain ⟨fr0, h0, hle0⟩ := h.lim blk hb fr1 h1
    exact ⟨fr0, h0, Nat.le_trans hle0 hle⟩
  · exact k.map _ _ _ (h.noLim (map_lt hc) hm) (h.map _ _ _ hm hc)

theorem Rd.mono {m m' : Lim} {w w' : World} (he : Ext m w m' w') {v : Value} {u : V} (h : Rd m w v u) : Rd m' w' v u := by
  induction h with
  | undef v => exact .undef v
  | x v => exact .x v
  | dyn t v => exact .dyn t v
  | agg cs Cs hl _ ih => exact .agg cs Cs hl ih
  | tup cs Cs hl _ ih => exact .tup cs Cs hl ih
  | nil sz tok => exact .nil sz tok
  | emp a cap sz => exact .emp a cap sz
  | sl blk off cap sz es tok c hb hcap hsz hc hm _ ih =>
    refine .sl blk off cap sz es tok c (Nat.lt_of_lt_of_le hb he.size) hcap hsz (fun k hk => ?_) (fun fr' hf => ?_) ih
    · exact he.cell blk (off + k) _ hb (fun fr hf => by have := hm fr hf; omega) (hc k hk)
    · obtain ⟨fr, h0, hle⟩ := he.lim blk hb fr' hf
      exact Nat.le_trans (hm fr h0) hle
  | ip blk off cs c hb hc hm _ ih =>
    refine .ip blk off cs c (Nat.lt_of_lt_of_le hb he.size) (fun k hk => ?_) (fun fr' hf => ?_) ih
    · exact he.cell blk (off + k) _ hb (fun fr hf => by have := hm fr hf; omega) (hc k hk)
    · obtain ⟨fr, h0, hle⟩ := he.lim blk hb fr' hf
      exact Nat.le_trans (hm fr h0) hle
  | fm blk ks vs ents clock hb hh hm hk hv hkey hbn hd _ ih => exact .fm blk ks vs ents clock (Nat.lt_of_lt_of_le hb he.size) (he.map _ _ _ hm hh) (he.noLim hb hm) hk hv hkey hbn hd ih

/-- Behind a call that only makes memory. -/
theorem Ext.of_below {m m' : Lim} {w w' : World} (h : Below w.heap.size w w') (hm : ∀ blk, blk < w.heap.size → m' blk = m blk) : Ext m w m' w' :=
  ⟨h.size, fun blk off v hb _ hc => by rw [h.cell (p := ⟨blk, off, none⟩) hb]; exact hc, fun blk hb fr' hf => ⟨fr', by rw [← hm blk hb]; exact hf, Nat.le_refl _⟩, fun blk es c _ hc => by rw [h.block _ (map_lt hc)]; exact hc⟩

/-- Rows of values. -/
def RdL (m : Lim) (w : World) : List Value → List V → Prop
  | [], [] => True
  | v :: vs, u :: us => Rd m w v u ∧ RdL m w vs us
  | _, _ => False

theorem RdL.mono {m m' : Lim} {w w' : World} (he : Ext m w m' w') : ∀ {vs : List Value} {us : List V}, RdL m w vs us → RdL m' w' vs us
  | [], [], _ => trivial
  | _ :: _, _ :: _, h => ⟨h.1.mono he, RdL.mono he h.2⟩

theorem RdL.length {m : Lim} {w : World} : ∀ {vs : List Value} {us : List V}, RdL m w vs us → vs.length = us.length
  | [], [], _ => rfl
  | _ :: _, _ :: _, h => by simp [RdL.length h.2]

theorem RdL.get {m : Lim} {w : World} : ∀ {vs : List Value} {us : List V}, RdL m w vs us → ∀ (i : Nat) (v : Value) (u : V), vs[i]? = some v → us[i]? = some u → Rd m w v u
  | [], [], _, i, v, u, h, _ => by simp at h
  | v0 :: vs, u0 :: us, h, i, v, u, hv, hu => by
    cases i with
    | zero => simp at hv hu; subst hv hu; exact h.1
    | succ i => exact RdL.get h.2 i v u (by simpa using hv) (by simpa using hu)

theorem RdL.of_get {m : Lim} {w : World} : ∀ {vs : List Value} {us : List V}, vs.length = us.length → (∀ (i : Nat) (v : Value) (u : V), vs[i]? = some v → us[i]? = some u → Rd m w v u) → RdL m w vs us
  | [], [], _, _ => trivial
  | v0 :: vs, u0 :: us, hl, h => ⟨h 0 v0 u0 rfl rfl, RdL.of_get (by simpa using hl) (fun i v u hv hu => h (i + 1) v u (by simpa using hv) (by simpa using hu))⟩
  | [], _ :: _, hl, _ => by simp at hl
  | _ :: _, [], hl, _ => by simp at hl

theorem Rd.agg_iff {m : Lim} {w : World} {v : Value} {Cs : List V} : Rd m w v (.agg Cs) ↔ ∃ cs : Array Value, v = .agg cs ∧ RdL m w cs.toList Cs := by
  constructor
  · intro h
    cases h with
    | agg cs _ hl h => exact ⟨cs, rfl, RdL.of_get (by simpa using hl) (fun i v u hv hu => h i v u (by simpa using hv) hu)⟩
  · rintro ⟨cs, rfl, h⟩
    exact .agg cs Cs (by simpa using h.length) (fun i v u hv hu => h.get i v u (by simpa using hv) hu)
theorem Rd.tup_iff {m : Lim} {w : World} {v : Value} {Cs : List V} : Rd m w v (.tup Cs) ↔ ∃ cs : Array Value, v = .tuple cs ∧ RdL m w cs.toList Cs := by
  constructor
  · intro h
    cases h with
    | tup cs _ hl h => exact ⟨cs, rfl, RdL.of_get (by simpa using hl) (fun i v u hv hu => h i v u (by simpa using hv) hu)⟩
  · rintro ⟨cs, rfl, h⟩
    exact .tup cs Cs (by simpa using h.length) (fun i v u hv hu => h.get i v u (by simpa using hv) hu)
theorem Rd.x_iff {m : Lim} {w : World} {v u : Value} : Rd m w v (.x u) ↔ v = u := by
  constructor
  · intro h; cases h; rfl
  · rintro rfl; exact .x v

/-- A value's cells. -/
theorem Rd.cells {m : Lim} {w : World} {v : Value} {u : V} (h : Rd m w v u) (hu : u ≠ .undef) (hx : ∀ a, u ≠ .x (.agg a)) : RdL m w v.cells.toList u.cells := by
  cases h with
  | undef v => exact absurd rfl hu
  | x v =>
    cases v <;> first | exact ⟨.x _, trivial⟩ | exact absurd rfl (hx _)
  | agg cs Cs hl h => exact (Rd.agg_iff.1 (.agg cs Cs hl h)).elim fun a ⟨e, h⟩ => by cases e; exact h
  | tup cs Cs hl h => exact ⟨.tup cs Cs hl h, trivial⟩
  | nil sz tok => exact ⟨.nil sz tok, trivial⟩
  | emp a cap sz => exact ⟨.emp a cap sz, trivial⟩
  | dyn t v => exact ⟨.dyn t v, trivial⟩
  | sl blk off cap sz es tok c hb hcap hsz hc hm hr => exact ⟨.sl blk off cap sz es tok c hb hcap hsz hc hm hr, trivial⟩
  | ip blk off cs c hb hc hm hr => exact ⟨.ip blk off cs c hb hc hm hr, trivial⟩
  | fm blk ks vs ents clock hb hh hm hk hv hkey hbn hd hr => exact ⟨.fm blk ks vs ents clock hb hh hm hk hv hkey hbn hd hr, trivial⟩

end Go.Proofs.Ytkacldoiimlmcaa
