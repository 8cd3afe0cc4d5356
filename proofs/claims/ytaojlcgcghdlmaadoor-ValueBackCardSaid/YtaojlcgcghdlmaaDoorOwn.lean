/- A slice that the call itself builds, carried from append to append; a slice that is only read. Nothing of the program. -/
import Derived.Test.YtaojlcgcghdlmaaDoorBase
import Derived.Lib.AppendStr
import Derived.Lib.UnsafeStr
import Derived.OwnWalk
import Derived.Deep.Draws
namespace Go.Proofs.YtaojlcgcghdlmaaDoor
open Go.RowKit

theorem add_plain (b o j : Nat) : (⟨b, o, none⟩ : Addr).add j = ⟨b, o + j, none⟩ := by
  unfold Addr.add
  split
  · rename_i h; rw [h]; rfl
  · rfl

/-- In w the value v is a slice of n elements (each of sz cells), in a block from B on that the call made, which reads xs; below B all is as in W0. -/
def Own (B : Nat) (e : TypeId) (sz : Nat) (v : Value) (n : Nat) (xs : List Value) (W0 w : World) : Prop :=
  w.ownsRow B e sz v n xs ∧ Below B W0 w ∧ B ≤ w.heap.size

section
variable {B : Nat} {e : TypeId} {sz : Nat} {v : Value} {n : Nat} {xs : List Value} {W0 w : World}

theorem Own.nil (hb : Below B W0 w) (hB : B ≤ w.heap.size) : Own B e sz (.slice none 0 0) 0 [] W0 w := ⟨World.ownsRow_nil _ _ _ _, hb, hB⟩
theorem Own.below (h : Own B e sz v n xs W0 w) : Below B W0 w := h.2.1
theorem Own.size (h : Own B e sz v n xs W0 w) : B ≤ w.heap.size := h.2.2
theorem Own.len (h : Own B e sz v n xs W0 w) : xs.length = n * sz := h.1.1
theorem Own.alloc (h : Own B e sz v n xs W0 w) (o : Obj) : Own B e sz v n xs W0 (w.alloc o) := ⟨h.1.alloc o, h.2.1.alloc h.2.2 o, by simp; have := h.2.2; omega⟩
theorem Own.drew (h : Own B e sz v n xs W0 w) : Own B e sz v n xs W0 w.drew := ⟨h.1.drew, h.2.1.drew, h.2.2⟩
theorem Own.grown {v' : Value} {n' : Nat} {xs' : List Value} {w' : World} (h : Own B e sz v n xs W0 w) (ho : w'.ownsRow B e sz v' n' xs') (hg : w.grownBy w' v.ownBlock) : Own B e sz v' n' xs' W0 w' :=
  ⟨ho, h.2.1.grown hg h.2.2 (fun k hk => (h.1.lt k hk).1), Nat.le_trans h.2.2 hg.size⟩
/-- Behind a call that only makes memory. -/
theorem Own.on {w' : World} (h : Own B e sz v n xs W0 w) (hb : Below w.heap.size w w') : Own B e sz v n xs W0 w' := by
  refine ⟨⟨h.1.1, ?_⟩, h.2.1.trans (hb.mono h.2.2), Nat.le_trans h.2.2 hb.size⟩
  rcases h.1.2 with h1 | ⟨g, cap, cur, hv, hbg, hh, r⟩
  · exact .inl h1
  · refine .inr ⟨g, cap, cur, hv, hbg, ?_, r⟩
    have hlt : g < w.heap.size := by
      rcases Nat.lt_or_ge g w.heap.size with h | h
      · exact h
      · rw [Array.getElem?_eq_none h] at hh; cases hh
    rw [hb.block g hlt]; exact hh
/-- Counted from an earlier block on. -/
theorem Own.down {B' : Nat} {W1 : World} (h : Own B e sz v n xs W0 w) (hB : B' ≤ B) (hb : Below B' W1 W0) : Own B' e sz v n xs W1 w := by
  refine ⟨⟨h.1.1, ?_⟩, hb.trans (h.2.1.mono hB), Nat.le_trans hB h.2.2⟩
  rcases h.1.2 with h1 | ⟨g, cap, cur, hv, hbg, r⟩
  · exact .inl h1
  · exact .inr ⟨g, cap, cur, hv, Nat.le_trans hB hbg, r⟩
theorem Own.eq {n' : Nat} {xs' : List Value} (h : Own B e sz v n xs W0 w) (hn : n = n') (hx : xs = xs') : Own B e sz v n' xs' W0 w := by subst hn hx; exact h
/-- A literal of n elements, just laid. -/
theorem Own.lit (hb : Below B W0 w) (hB : B ≤ w.heap.size) (cs : Array Value) (n : Nat) (hm : n ≤ maxLen) (hs : cs.size = n * sz) :
    Own B e sz (.slice (some ⟨w.heap.size, 0, none⟩) n n) n cs.toList W0 (w.alloc (.cells cs e)) :=
  ⟨World.ownsRow_lit w cs n hB hm hs, hb.alloc hB _, by simp; omega⟩

/-- A slice that is only read: n elements of sz cells each, below block B. -/
def SlAt (w : World) (B sz : Nat) (v : Value) (n : Nat) (xs : List Value) : Prop :=
  xs.length = n * sz ∧ ((n = 0 ∧ ∃ A c, v = .slice A 0 c) ∨
    ∃ b o c, v = .slice (some ⟨b, o, none⟩) n c ∧ 0 < n ∧ n ≤ c ∧ b < B ∧ ∀ j u, xs[j]? = some u → w.cell? ⟨b, o + j, none⟩ = some u)

theorem SlAt.on {w' : World} (h : SlAt w B sz v n xs) (hb : Below B w w') : SlAt w' B sz v n xs := by
  refine ⟨h.1, ?_⟩
  rcases h.2 with h2 | ⟨b, o, c, hv, h0, hc, hB, hx⟩
  · exact .inl h2
  · exact .inr ⟨b, o, c, hv, h0, hc, hB, fun j u hu => by rw [hb.cell (p := ⟨b, o + j, none⟩) hB]; exact hx j u hu⟩
theorem SlAt.more {B' : Nat} (h : SlAt w B sz v n xs) (hB : B ≤ B') : SlAt w B' sz v n xs := by
  refine ⟨h.1, ?_⟩
  rcases h.2 with h2 | ⟨b, o, c, hv, h0, hc, hb, hx⟩
  · exact .inl h2
  · exact .inr ⟨b, o, c, hv, h0, hc, by omega, hx⟩
theorem SlAt.nil : SlAt w B sz (.slice none 0 0) 0 [] := ⟨by simp, .inl ⟨rfl, _, _, rfl⟩⟩
theorem Own.slAt (h : Own B e sz v n xs W0 w) : SlAt w w.heap.size sz v n xs := by
  refine ⟨h.1.1, ?_⟩
  rcases h.1.2 with ⟨rfl, h0⟩ | ⟨g, cap, cur, rfl, hbg, hh, hnc, hcm, hcs, htake⟩
  · exact .inl ⟨h0, _, _, rfl⟩
  · rcases Nat.eq_zero_or_pos n with h0 | h0
    · subst h0; exact .inl ⟨rfl, _, _, rfl⟩
    · refine .inr ⟨g, 0, cap, rfl, h0, hnc, ?_, fun j u hu => ?_⟩
      · rcases Nat.lt_or_ge g w.heap.size with h | h
        · exact h
        · rw [Array.getElem?_eq_none h] at hh; cases hh
      · have hj : j < n * sz := by
          have := (List.getElem?_eq_some_iff.1 hu).1
          have := h.1.1
          omega
        rw [Nat.zero_add]
        rw [World.ownsRow.cellAt (n := n) (cap := cap) h.1 j hj]
        exact hu

variable {P : Program}

/-- 'v = append(v, x)': the one new element lies in the block that the statement has just laid. -/
theorem wp_own_one {o : Oper} {a : Act} {K : Act → World → Prop} {Q : Exit → Act → World → Prop} (s x : Operand) (t : TypeId)
    (ho : o.op = .call { callee := .builtin .append, args := #[s, x], argTypes := #[t, t] })
    (i : TypeInfo) (z : Value) (bytes : Nat) (ht : P.underlying t = some (.slice e)) (hi : P.info? e = some i) (hz : i.zero = some z) (hsize : i.size = sz) (hby : i.bytes = bytes) (hzs : z.cells.size = sz) (hsz : 0 < sz)
    (hs : a.eval s = v) (h : Own B e sz v n xs W0 w) (cs : Array Value) (hcs : cs.size = sz) (h1 : ∀ u ∈ cs.toList, u.oneCell' = true)
    {N : Nat} (hx : a.eval x = .slice (some ⟨N, 0, none⟩) 1 1) (hN : w.heap.size = N) (h63 : n + 1 ≤ maxLen) (hbytes : (n + 1) * bytes ≤ 140737488355328)
    {W : World} (hW : W = w.alloc (.cells cs e)) (k : ∀ v' w', Own B e sz v' (n + 1) (xs ++ cs.toList) W0 w' → K (a.put o.dst v') w') : o.wp P a W K Q := by
  subst hN hW
  have ha := h.alloc (.cells cs e)
  refine wp_append_own _ s x t ho B e i z sz bytes ht hi hz hsize hby hzs hsz v n xs hs ha.1 ⟨w.heap.size, 0, none⟩ 1 1 cs.toList hx (by simp [hcs]) ?_ h1 h63 hbytes ha.2.2 ?_
  · intro j u hu
    rw [add_plain, Nat.zero_add]
    simpa using hu
  · intro v' w' ho' hg _
    exact k v' w' (ha.grown ho' hg)

/-- .. of a byte. -/
theorem wp_own_byte {o : Oper} {a : Act} {K : Act → World → Prop} {Q : Exit → Act → World → Prop} (s x : Operand) (t : TypeId)
    (ho : o.op = .call { callee := .builtin .append, args := #[s, x], argTypes := #[t, t] })
    (i : TypeInfo) (ht : P.underlying t = some (.slice e)) (hi : P.info? e = some i) (hz : i.zero = some (.int .u8 0)) (hsize : i.size = 1) (hby : i.bytes = 1)
    (hs : a.eval s = v) (h : Own B e 1 v n xs W0 w) (c : Int)
    {N : Nat} (hx : a.eval x = .slice (some ⟨N, 0, none⟩) 1 1) (hN : w.heap.size = N) (hlen : n + 1 ≤ 140737488355328)
    {W : World} (hW : W = w.alloc (.cells #[.int .u8 c] e)) (k : ∀ v' w', Own B e 1 v' (n + 1) (xs ++ [.int .u8 c]) W0 w' → K (a.put o.dst v') w') : o.wp P a W K Q :=
  wp_own_one s x t ho i (.int .u8 0) 1 ht hi hz hsize hby rfl (by decide) hs h #[.int .u8 c] rfl (by simp [Value.oneCell']) hx hN (by unfold maxLen; omega) (by omega) hW k

/-- 'v = append(v, src...)': the source is only read; nil and empty ones too. -/
theorem run_own_any (t ty : TypeId) (i : TypeInfo) (z : Value) (bytes : Nat) (ht : P.underlying t = some (.slice e)) (hi : P.info? e = some i) (hz : i.zero = some z) (hsize : i.size = sz) (hby : i.bytes = bytes) (hzs : z.cells.size = sz) (hsz : 0 < sz)
    (h : Own B e sz v n xs W0 w) {B' : Nat} {src : Value} {m : Nat} {ys : List Value} (hr : SlAt w B' sz src m ys) (h1 : ∀ u ∈ ys, u.oneCell' = true) (h63 : n + m ≤ maxLen) (hbytes : (n + m) * bytes ≤ 140737488355328) :
    ∃ v' w', (Builtin.append_ #[t, t] ty #[v, src]).run P w = .ok v' w' ∧ Own B e sz v' (n + m) (xs ++ ys) W0 w' := by
  rcases hr.2 with ⟨rfl, A, c, rfl⟩ | ⟨b, o, c, rfl, h0, hc, hB, hx⟩
  · have hys : ys = [] := List.eq_nil_of_length_eq_zero (by simpa using hr.1)
    subst hys
    cases A with
    | none =>
      refine ⟨v, w, ?_, by simpa using h⟩
      rcases h.1.2 with ⟨rfl, rfl⟩ | ⟨g, cap, cur, rfl, _, _, hnc, _⟩
      · simp [Builtin.append_, run_underlying ht, sizeOf, typeInfo, hi, Builtin.lenOf, Builtin.firstCells]
      · simp [Builtin.append_, run_underlying ht, sizeOf, typeInfo, hi, Builtin.lenOf, Builtin.firstCells, hnc, storeCells]
    | some ad =>
      obtain ⟨v', w', hrun, h2, h3, _⟩ := run_append_own (P := P) w B t ty e i z sz bytes ht hi hz hsize hby hzs hsz v n xs h.1 ad 0 c [] (by simp) (by intro j u hu; simp at hu) (by intro u hu; simp at hu) (by omega) (by simpa using hbytes) h.2.2
      exact ⟨v', w', hrun, h.grown (by simpa using h2) h3⟩
  · obtain ⟨v', w', hrun, h2, h3, _⟩ := run_append_own (P := P) w B t ty e i z sz bytes ht hi hz hsize hby hzs hsz v n xs h.1 ⟨b, o, none⟩ m c ys hr.1 (fun j u hu => by rw [add_plain]; exact hx j u hu) h1 h63 hbytes h.2.2
    exact ⟨v', w', hrun, h.grown h2 h3⟩

theorem wp_own_any {o : Oper} {a : Act} {K : Act → World → Prop} {Q : Exit → Act → World → Prop} (s x : Operand) (t : TypeId)
    (ho : o.op = .call { callee := .builtin .append, args := #[s, x], argTypes := #[t, t] })
    (i : TypeInfo) (z : Value) (bytes : Nat) (ht : P.underlying t = some (.slice e)) (hi : P.info? e = some i) (hz : i.zero = some z) (hsize : i.size = sz) (hby : i.bytes = bytes) (hzs : z.cells.size = sz) (hsz : 0 < sz)
    (hs : a.eval s = v) (h : Own B e sz v n xs W0 w) {B' : Nat} {src : Value} {m : Nat} {ys : List Value} (hx : a.eval x = src) (hr : SlAt w B' sz src m ys) (h1 : ∀ u ∈ ys, u.oneCell' = true)
    (h63 : n + m ≤ maxLen) (hbytes : (n + m) * bytes ≤ 140737488355328)
    (k : ∀ v' w', Own B e sz v' (n + m) (xs ++ ys) W0 w' → K (a.put o.dst v') w') : o.wp P a w K Q := by
  obtain ⟨v', w', hr', h2⟩ := run_own_any (P := P) t o.type i z bytes ht hi hz hsize hby hzs hsz h hr h1 h63 hbytes
  unfold Oper.wp execOp
  simp only [ho, resolve, invoke, builtin, Sem.run_bind, Sem.run_pure, Result.andThen_ok, List.map_toArray, List.map_cons, List.map_nil, hs, hx, hr']
  exact k v' w' h2

/-- 'v = append(v, s...)', s a text. -/
theorem wp_own_str {o : Oper} {a : Act} {K : Act → World → Prop} {Q : Exit → Act → World → Prop} (sl x : Operand) (t u : TypeId)
    (ho : o.op = .call { callee := .builtin .append, args := #[sl, x], argTypes := #[t, u] })
    (i : TypeInfo) (ht : P.underlying t = some (.slice e)) (hu : P.underlying u = some .string) (hi : P.info? e = some i) (hz : i.zero = some (.int .u8 0)) (hsize : i.size = 1) (hby : i.bytes = 1)
    (hs : a.eval sl = v) (h : Own B e 1 v n xs W0 w) (s : ByteArray) (hx : a.eval x = .string s) (hlen : n + s.size ≤ 140737488355328)
    (k : ∀ v' w', Own B e 1 v' (n + s.size) (xs ++ Lib.byteCells s.data.toList) W0 w' → K (a.put o.dst v') w') : o.wp P a w K Q := by
  obtain ⟨v', w', hr, h2, h3, _⟩ := Lib.run_append_own_string (P := P) w B t u o.type e i ht hu hi hz hsize hby v n xs h.1 s (by unfold maxLen; omega) hlen h.2.2
  unfold Oper.wp execOp
  simp only [ho, resolve, invoke, builtin, Sem.run_bind, Sem.run_pure, Result.andThen_ok, List.map_toArray, List.map_cons, List.map_nil, hs, hx, hr]
  exact k v' w' (h.grown (by rw [Lib.strCells_eq] at h2; exact h2) h3)

theorem wpList_own_one {ops : Array Oper} {rest : List Oper} {o : Oper} {a : Act} {Q : Exit → Act → World → Prop} (hgd : o.guard = none) (s x : Operand) (t : TypeId)
    (ho : o.op = .call { callee := .builtin .append, args := #[s, x], argTypes := #[t, t] })
    (i : TypeInfo) (z : Value) (bytes : Nat) (ht : P.underlying t = some (.slice e)) (hi : P.info? e = some i) (hz : i.zero = some z) (hsize : i.size = sz) (hby : i.bytes = bytes) (hzs : z.cells.size = sz) (hsz : 0 < sz)
    (hs : a.eval s = v) (h : Own B e sz v n xs W0 w) (cs : Array Value) (hcs : cs.size = sz) (h1 : ∀ u ∈ cs.toList, u.oneCell' = true)
    {N : Nat} (hx : a.eval x = .slice (some ⟨N, 0, none⟩) 1 1) (hN : w.heap.size = N) (h63 : n + 1 ≤ maxLen) (hbytes : (n + 1) * bytes ≤ 140737488355328)
    {W : World} (hW : W = w.alloc (.cells cs e)) (k : ∀ v' w', Own B e sz v' (n + 1) (xs ++ cs.toList) W0 w' → wpList P ops Q rest (a.put o.dst v') w') : wpList P ops Q (o :: rest) a W :=
  wpList_plain hgd fun _ hK => wp_own_one s x t ho i z bytes ht hi hz hsize hby hzs hsz hs h cs hcs h1 hx hN h63 hbytes hW fun v' w' h' => hK _ _ (k v' w' h')
theorem step_own_one {ops : Array Oper} {o : Oper} {a : Act} {K : Act → World → Prop} {Q : Exit → Act → World → Prop} {E : Prop} (hgd : o.guard = none) (s x : Operand) (t : TypeId)
    (ho : o.op = .call { callee := .builtin .append, args := #[s, x], argTypes := #[t, t] })
    (i : TypeInfo) (z : Value) (bytes : Nat) (ht : P.underlying t = some (.slice e)) (hi : P.info? e = some i) (hz : i.zero = some z) (hsize : i.size = sz) (hby : i.bytes = bytes) (hzs : z.cells.size = sz) (hsz : 0 < sz)
    (hs : a.eval s = v) (h : Own B e sz v n xs W0 w) (cs : Array Value) (hcs : cs.size = sz) (h1 : ∀ u ∈ cs.toList, u.oneCell' = true)
    {N : Nat} (hx : a.eval x = .slice (some ⟨N, 0, none⟩) 1 1) (hN : w.heap.size = N) (h63 : n + 1 ≤ maxLen) (hbytes : (n + 1) * bytes ≤ 140737488355328)
    {W : World} (hW : W = w.alloc (.cells cs e)) (k : ∀ v' w', Own B e sz v' (n + 1) (xs ++ cs.toList) W0 w' → K (a.put o.dst v') w') :
    if Region.wanted o (yielded ops a.tmps) = true then Oper.wp P o a W K Q else E := by
  rw [if_pos (show Region.wanted o (yielded ops a.tmps) = true by simp [Region.wanted, hgd])]
  exact wp_own_one s x t ho i z bytes ht hi hz hsize hby hzs hsz hs h cs hcs h1 hx hN h63 hbytes hW k

theorem wpList_own_byte {ops : Array Oper} {rest : List Oper} {o : Oper} {a : Act} {Q : Exit → Act → World → Prop} (hgd : o.guard = none) (s x : Operand) (t : TypeId)
    (ho : o.op = .call { callee := .builtin .append, args := #[s, x], argTypes := #[t, t] })
    (i : TypeInfo) (ht : P.underlying t = some (.slice e)) (hi : P.info? e = some i) (hz : i.zero = some (.int .u8 0)) (hsize : i.size = 1) (hby : i.bytes = 1)
    (hs : a.eval s = v) (h : Own B e 1 v n xs W0 w) (c : Int)
    {N : Nat} (hx : a.eval x = .slice (some ⟨N, 0, none⟩) 1 1) (hN : w.heap.size = N) (hlen : n + 1 ≤ 140737488355328)
    {W : World} (hW : W = w.alloc (.cells #[.int .u8 c] e)) (k : ∀ v' w', Own B e 1 v' (n + 1) (xs ++ [.int .u8 c]) W0 w' → wpList P ops Q rest (a.put o.dst v') w') : wpList P ops Q (o :: rest) a W :=
  wpList_plain hgd fun _ hK => wp_own_byte s x t ho i ht hi hz hsize hby hs h c hx hN hlen hW fun v' w' h' => hK _ _ (k v' w' h')
theorem step_own_byte {ops : Array Oper} {o : Oper} {a : Act} {K : Act → World → Prop} {Q : Exit → Act → World → Prop} {E : Prop} (hgd : o.guard = none) (s x : Operand) (t : TypeId)
    (ho : o.op = .call { callee := .builtin .append, args := #[s, x], argTypes := #[t, t] })
    (i : TypeInfo) (ht : P.underlying t = some (.slice e)) (hi : P.info? e = some i) (hz : i.zero = some (.int .u8 0)) (hsize : i.size = 1) (hby : i.bytes = 1)
    (hs : a.eval s = v) (h : Own B e 1 v n xs W0 w) (c : Int)
    {N : Nat} (hx : a.eval x = .slice (some ⟨N, 0, none⟩) 1 1) (hN : w.heap.size = N) (hlen : n + 1 ≤ 140737488355328)
    {W : World} (hW : W = w.alloc (.cells #[.int .u8 c] e)) (k : ∀ v' w', Own B e 1 v' (n + 1) (xs ++ [.int .u8 c]) W0 w' → K (a.put o.dst v') w') :
    if Region.wanted o (yielded ops a.tmps) = true then Oper.wp P o a W K Q else E := by
  rw [if_pos (show Region.wanted o (yielded ops a.tmps) = true by simp [Region.wanted, hgd])]
  exact wp_own_byte s x t ho i ht hi hz hsize hby hs h c hx hN hlen hW k

theorem wpList_own_any {ops : Array Oper} {rest : List Oper} {o : Oper} {a : Act} {Q : Exit → Act → World → Prop} (hgd : o.guard = none) (s x : Operand) (t : TypeId)
    (ho : o.op = .call { callee := .builtin .append, args := #[s, x], argTypes := #[t, t] })
    (i : TypeInfo) (z : Value) (bytes : Nat) (ht : P.underlying t = some (.slice e)) (hi : P.info? e = some i) (hz : i.zero = some z) (hsize : i.size = sz) (hby : i.bytes = bytes) (hzs : z.cells.size = sz) (hsz : 0 < sz)
    (hs : a.eval s = v) (h : Own B e sz v n xs W0 w) {B' : Nat} {src : Value} {m : Nat} {ys : List Value} (hx : a.eval x = src) (hr : SlAt w B' sz src m ys) (h1 : ∀ u ∈ ys, u.oneCell' = true)
    (h63 : n + m ≤ maxLen) (hbytes : (n + m) * bytes ≤ 140737488355328)
    (k : ∀ v' w', Own B e sz v' (n + m) (xs ++ ys) W0 w' → wpList P ops Q rest (a.put o.dst v') w') : wpList P ops Q (o :: rest) a w :=
  wpList_plain hgd fun _ hK => wp_own_any s x t ho i z bytes ht hi hz hsize hby hzs hsz hs h hx hr h1 h63 hbytes fun v' w' h' => hK _ _ (k v' w' h')
theorem step_own_any {ops : Array Oper} {o : Oper} {a : Act} {K : Act → World → Prop} {Q : Exit → Act → World → Prop} {E : Prop} (hgd : o.guard = none) (s x : Operand) (t : TypeId)
    (ho : o.op = .call { callee := .builtin .append, args := #[s, x], argTypes := #[t, t] })
    (i : TypeInfo) (z : Value) (bytes : Nat) (ht : P.underlying t = some (.slice e)) (hi : P.info? e = some i) (hz : i.zero = some z) (hsize : i.size = sz) (hby : i.bytes = bytes) (hzs : z.cells.size = sz) (hsz : 0 < sz)
    (hs : a.eval s = v) (h : Own B e sz v n xs W0 w) {B' : Nat} {src : Value} {m : Nat} {ys : List Value} (hx : a.eval x = src) (hr : SlAt w B' sz src m ys) (h1 : ∀ u ∈ ys, u.oneCell' = true)
    (h63 : n + m ≤ maxLen) (hbytes : (n + m) * bytes ≤ 140737488355328)
    (k : ∀ v' w', Own B e sz v' (n + m) (xs ++ ys) W0 w' → K (a.put o.dst v') w') :
    if Region.wanted o (yielded ops a.tmps) = true then Oper.wp P o a w K Q else E := by
  rw [if_pos (show Region.wanted o (yielded ops a.tmps) = true by simp [Region.wanted, hgd])]
  exact wp_own_any s x t ho i z bytes ht hi hz hsize hby hzs hsz hs h hx hr h1 h63 hbytes k

theorem wpList_own_str {ops : Array Oper} {rest : List Oper} {o : Oper} {a : Act} {Q : Exit → Act → World → Prop} (hgd : o.guard = none) (sl x : Operand) (t u : TypeId)
    (ho : o.op = .call { callee := .builtin .append, args := #[sl, x], argTypes := #[t, u] })
    (i : TypeInfo) (ht : P.underlying t = some (.slice e)) (hu : P.underlying u = some .string) (hi : P.info? e = some i) (hz : i.zero = some (.int .u8 0)) (hsize : i.size = 1) (hby : i.bytes = 1)
    (hs : a.eval sl = v) (h : Own B e 1 v n xs W0 w) (s : ByteArray) (hx : a.eval x = .string s) (hlen : n + s.size ≤ 140737488355328)
    (k : ∀ v' w', Own B e 1 v' (n + s.size) (xs ++ Lib.byteCells s.data.toList) W0 w' → wpList P ops Q rest (a.put o.dst v') w') : wpList P ops Q (o :: rest) a w :=
  wpList_plain hgd fun _ hK => wp_own_str sl x t u ho i ht hu hi hz hsize hby hs h s hx hlen fun v' w' h' => hK _ _ (k v' w' h')
theorem step_own_str {ops : Array Oper} {o : Oper} {a : Act} {K : Act → World → Prop} {Q : Exit → Act → World → Prop} {E : Prop} (hgd : o.guard = none) (sl x : Operand) (t u : TypeId)
    (ho : o.op = .call { callee := .builtin .append, args := #[sl, x], argTypes := #[t, u] })
    (i : TypeInfo) (ht : P.underlying t = some (.slice e)) (hu : P.underlying u = some .string) (hi : P.info? e = some i) (hz : i.zero = some (.int .u8 0)) (hsize : i.size = 1) (hby : i.bytes = 1)
    (hs : a.eval sl = v) (h : Own B e 1 v n xs W0 w) (s : ByteArray) (hx : a.eval x = .string s) (hlen : n + s.size ≤ 140737488355328)
    (k : ∀ v' w', Own B e 1 v' (n + s.size) (xs ++ Lib.byteCells s.data.toList) W0 w' → K (a.put o.dst v') w') :
    if Region.wanted o (yielded ops a.tmps) = true then Oper.wp P o a w K Q else E := by
  rw [if_pos (show Region.wanted o (yielded ops a.tmps) = true by simp [Region.wanted, hgd])]
  exact wp_own_str sl x t u ho i ht hu hi hz hsize hby hs h s hx hlen k

end

/-- Bytes that are only read. -/
def BySl (w : World) (B : Nat) (v : Value) (l : List UInt8) : Prop := SlAt w B 1 v l.length (Lib.byteCells l)
theorem BySl.parts {w : World} {B : Nat} {v : Value} {l : List UInt8} (h : BySl w B v l) : (l = [] ∧ ∃ A c, v = .slice A 0 c) ∨
    ∃ b o c, v = .slice (some ⟨b, o, none⟩) l.length c ∧ 0 < l.length ∧ l.length ≤ c ∧ b < B ∧ ∀ i (h : i < l.length), w.cell? ⟨b, o + i, none⟩ = some (.int .u8 l[i].toNat) := by
  rcases h.2 with ⟨h0, A, c, hv⟩ | ⟨b, o, c, hv, h0, hc, hB, hx⟩
  · exact .inl ⟨List.eq_nil_of_length_eq_zero h0, A, c, hv⟩
  · exact .inr ⟨b, o, c, hv, h0, hc, hB, fun i hi => hx i _ (by simp [Lib.byteCells, hi])⟩
theorem BySl.on {w w' : World} {B : Nat} {v : Value} {l : List UInt8} (h : BySl w B v l) (hb : Below B w w') : BySl w' B v l := SlAt.on h hb
theorem BySl.of {w : World} {B b o c : Nat} {l : List UInt8} (hc : l.length ≤ c) (hb : b < B) (h : ∀ i (h : i < l.length), w.cell? ⟨b, o + i, none⟩ = some (.int .u8 l[i].toNat)) : BySl w B (.slice (some ⟨b, o, none⟩) l.length c) l := by
  refine ⟨by simp [Lib.byteCells], ?_⟩
  rcases Nat.eq_zero_or_pos l.length with h0 | h0
  · rw [h0]; exact .inl ⟨rfl, _, _, rfl⟩
  · refine .inr ⟨b, o, c, rfl, h0, hc, hb, fun j u hu => ?_⟩
    simp only [Lib.byteCells, List.getElem?_map, Option.map_eq_some_iff] at hu
    obtain ⟨x, hx, rfl⟩ := hu
    obtain ⟨hj, rfl⟩ := List.getElem?_eq_some_iff.1 hx
    exact h j hj

end Go.Proofs.YtaojlcgcghdlmaaDoor
