/- Chapter 10, the reference's small functions: rows of values. -/
import Derived.Test.YtfngpfnbhafmlaaGreatDoorMQ
import Derived.Test.YtfngpfnbhafmlaaGreatDoorMPO
namespace Go.Proofs.YtfngpfnbhafmlaaGreatDoor
open Go Go.RowKit
set_option linter.unusedSimpArgs false
abbrev RW := Bool × Nat × List T3
def rwV (p : RW) : V := .sl p.1 p.2.1 (p.2.2.map tv) none
def okRw (p : RW) : Prop := (p.2.2 ≠ [] → p.2.1 = 3) ∧ (∀ v ∈ p.2.2, inR v.2.1) ∧ p.2.2.length ≤ 1000000
theorem tv_inj {a b : T3} (e : tv a = tv b) : a = b := by
 obtain ⟨k, n, s⟩ := a
 obtain ⟨k', n', s'⟩ := b
 simp only [tv, vl, V.agg.injEq, List.cons.injEq, V.x.injEq, Value.int.injEq, Value.string.injEq, true_and, and_true] at e
 obtain ⟨rfl, rfl, rfl⟩ := e
 rfl
theorem map_inj' {α β : Type} {f : α → β} (hf : ∀ a b, f a = f b → a = b) : ∀ {l l' : List α}, l.map f = l'.map f → l = l'
 | [], [], _ => rfl
 | [], _ :: _, e => by cases e
 | _ :: _, [], e => by cases e
 | a :: l, b :: l', e => by
   rw [List.map_cons, List.map_cons, List.cons.injEq] at e
   rw [hf _ _ e.1, map_inj' hf e.2]
theorem rwV_inj (p q : RW) (e : rwV p = rwV q) : p = q := by
 obtain ⟨a, b, c⟩ := p
 obtain ⟨a', b', c'⟩ := q
 simp only [rwV, V.sl.injEq, and_true] at e
 obtain ⟨rfl, rfl, h⟩ := e
 rw [map_inj' (fun _ _ h => tv_inj h) h]
theorem tv_at {l : List T3} {i : Nat} (h : i < l.length) : ∃ k n s, l[i]? = some (k, n, s) ∧ (l.map tv)[((i : Nat) : Int).toNat]? = some (vl k n s) ∧ (k, n, s) ∈ l ∧ l.drop i = (k, n, s) :: l.drop (i + 1) := by
 refine ⟨l[i].1, l[i].2.1, l[i].2.2, List.getElem?_eq_getElem h, ?_, List.getElem_mem h, List.drop_eq_getElem_cons h⟩
 rw [Int.toNat_natCast, List.getElem?_map, List.getElem?_eq_getElem h]
 rfl
def faultL : List T3 → Option T3
 | [] => none
 | v :: l => if rightB v.1 v.2.1 v.2.2 = false then some (4, 3, ⟨#[]⟩) else if v.1 = 4 then some v else faultL l
def plainW (k n : Int) (s : ByteArray) : T3 := if rightB k n s = true then (k, n, s) else (4, 3, ⟨#[]⟩)
def FPlain : List V → Option V
 | [.agg [.x (.int .i64 k), .x (.int .i64 n), .x (.string s)]] => some (tv (plainW k n s))
 | _ => none
end Go.Proofs.YtfngpfnbhafmlaaGreatDoor
namespace Go.Proofs.YtfngpfnbhafmlaaGreatDoor
open Go Go.RowKit
set_option linter.unusedSimpArgs false
theorem take_snoc3 {α : Type} {l : List α} {i : Nat} {x : α} (h : l[i]? = some x) : l.take (i + 1) = l.take i ++ [x] := by
 rw [List.take_add_one, h]; rfl
theorem inR_0 : inR 0 := by unfold inR; omega
theorem fitV_in (x : Int) : inR (fitV x).2.1 := by
 unfold fitV
 split
 · assumption
 · show inR 1
   unfold inR; omega
theorem add_in {k n : Int} {s : ByteArray} {k' n' : Int} {s' : ByteArray} (h : inR n) (h' : inR n') : inR (pairW ⟨#[43]⟩ k n s k' n' s').2.1 := by
 have i3 : inR 3 := by unfold inR; omega
 unfold pairW
 by_cases c1 : rightB k n s = false ∨ rightB k' n' s' = false
 · rw [if_pos c1]; exact i3
 · rw [if_neg c1]
   by_cases c2 : k = 4
   · rw [if_pos c2]; exact h
   · rw [if_neg c2]
     by_cases c3 : k' = 4
     · rw [if_pos c3]; exact h'
     · rw [if_neg c3, if_pos (.inl rfl)]
       by_cases c4 : k = 2 ∨ k = 3 ∨ k' = 2 ∨ k' = 3
       · rw [if_pos c4]; exact i3
       · rw [if_neg c4]
         unfold reckonW
         rw [if_pos rfl]
         exact fitV_in _
def sumStep (a : T3 × Nat) (v : T3) : T3 × Nat := if v.1 = 1 then (pairW ⟨#[43]⟩ a.1.1 a.1.2.1 a.1.2.2 v.1 v.2.1 v.2.2, a.2 + 1) else a
def sumL (l : List T3) : T3 × Nat := l.foldl sumStep ((1, 0, ⟨#[]⟩), 0)
theorem sumL_snoc (l : List T3) (v : T3) : sumL (l ++ [v]) = sumStep (sumL l) v := by simp [sumL]
theorem sumL_in {l : List T3} (h : ∀ v ∈ l, inR v.2.1) : inR (sumL l).1.2.1 ∧ (sumL l).2 ≤ l.length := by
 have key : ∀ (l : List T3) (a : T3 × Nat), (∀ v ∈ l, inR v.2.1) → inR a.1.2.1 → inR (l.foldl sumStep a).1.2.1 ∧ (l.foldl sumStep a).2 ≤ a.2 + l.length := by
  intro l
  induction l with
  | nil => exact fun a _ h => ⟨h, Nat.le_refl _⟩
  | cons v l ih =>
    intro a hl ha
    have h1 : inR (sumStep a v).1.2.1 ∧ (sumStep a v).2 ≤ a.2 + 1 := by
     unfold sumStep
     split
     · exact ⟨add_in ha (hl v (List.mem_cons_self ..)), Nat.le_refl _⟩
     · exact ⟨ha, by omega⟩
    obtain ⟨q1, q2⟩ := ih _ (fun x hx => hl x (List.mem_cons_of_mem _ hx)) h1.1
    rw [List.foldl_cons, List.length_cons]
    exact ⟨q1, by omega⟩
 have := key l ((1, 0, ⟨#[]⟩), 0) h inR_0
 simpa [sumL] using this
def cntA (l : List T3) : Nat := (l.filter fun v => !rightB v.1 v.2.1 v.2.2 || !decide (v.1 = 0)).length
end Go.Proofs.YtfngpfnbhafmlaaGreatDoor
namespace Go.Proofs.YtfngpfnbhafmlaaGreatDoor
open Go Go.RowKit
set_option linter.unusedSimpArgs false
abbrev AW := Bool × Nat × List RW
def awV (p : AW) : V := .sl p.1 p.2.1 (p.2.2.map rwV) none
def allL (l : List RW) : List T3 := l.flatMap fun r => r.2.2
def okAw (p : AW) : Prop := (p.2.2 ≠ [] → p.2.1 = 1) ∧ (∀ r ∈ p.2.2, okRw r) ∧ (allL p.2.2).length ≤ 1000000 ∧ p.2.2.length ≤ 1000000
theorem awV_inj (p q : AW) (e : awV p = awV q) : p = q := by
 obtain ⟨a, b, c⟩ := p
 obtain ⟨a', b', c'⟩ := q
 simp only [awV, V.sl.injEq, and_true] at e
 obtain ⟨rfl, rfl, h⟩ := e
 rw [map_inj' rwV_inj h]
def encAw (p : AW) : List V := [awV p]
theorem encAw_inj (p q : AW) (e : encAw p = encAw q) : p = q := awV_inj _ _ (List.cons.inj e).1
theorem allL_snoc (l : List RW) (r : RW) : allL (l ++ [r]) = allL l ++ r.2.2 := by simp [allL]
theorem allL_take_le (l : List RW) (i : Nat) : (allL (l.take i)).length ≤ (allL l).length := by
 have h : allL l = allL (l.take i ++ l.drop i) := by rw [List.take_append_drop]
 rw [h]
 unfold allL
 rw [List.flatMap_append, List.length_append]
 omega
theorem rw_at {l : List RW} {i : Nat} (h : i < l.length) : ∃ a b c, l[i]? = some (a, b, c) ∧ (l.map rwV)[((i : Nat) : Int).toNat]? = some (.sl a b (c.map tv) none) ∧ (a, b, c) ∈ l := by
 refine ⟨l[i].1, l[i].2.1, l[i].2.2, List.getElem?_eq_getElem h, ?_, List.getElem_mem h⟩
 rw [Int.toNat_natCast, List.getElem?_map, List.getElem?_eq_getElem h]
 rfl
theorem growV_app0 {E : Env} {el n by' : Nat} {z : List V} (h1 : szB E.P el = some n) (hby : byB E.P el = some by') (hz : zeroB E.P el = some z) (h4 : n ≠ 0) (h5 : z.length = n)
 {es : List V} (hb : es.length * by' ≤ 140737488355328) (hl : es.length ≤ 9223372036854775807) (st : St) (d tok : Nat) (nl : Bool) (m : Nat) (t' : Option Nat) :
 growV E st (some d) el (.sl es.isEmpty n es (some tok)) (.sl nl m [] t') = some ⟨upd (strip tok (strip d st.t)) d (.sl es.isEmpty n es (some d)), stripB E tok (stripB E d st.b)⟩ := by
 unfold growV
 simp only [h1, hby, hz]
 cases es with
 | nil =>
   simp only [List.isEmpty_nil]
   rw [if_pos ⟨h4, h5, .inr trivial, rfl, by simp, by simp⟩]
   rfl
 | cons e es =>
   simp only [List.isEmpty_cons]
   rw [if_pos ⟨h4, h5, trivial, .inr trivial, rfl, by simpa using hb, by simpa using hl⟩]
   simp
theorem growV_row {E : Env} {el n by' : Nat} {z : List V} (h1 : szB E.P el = some n) (hby : byB E.P el = some by') (hz : zeroB E.P el = some z) (h4 : n ≠ 0) (h5 : z.length = n)
 {es es' : List V} {m : Nat} (hm : es' ≠ [] → m = n) (hc : (es'.all fun u => u.cells.all V.cell) = true) (hb : (es.length + es'.length) * by' ≤ 140737488355328) (hl : es.length + es'.length ≤ 9223372036854775807) (st : St) (d tok : Nat) (nl : Bool) (t' : Option Nat) :
 growV E st (some d) el (.sl es.isEmpty n es (some tok)) (.sl nl m es' t') = some ⟨upd (strip tok (strip d st.t)) d (.sl (es ++ es').isEmpty n (es ++ es') (some d)), stripB E tok (stripB E d st.b)⟩ := by
 by_cases he : es' = []
 · subst he
   rw [growV_app0 h1 hby hz h4 h5 (by simpa using hb) (by simpa using hl), List.append_nil]
 · rw [hm he]
   exact growV_app h1 hby hz h4 h5 hc hb hl st d tok nl t'
def freshR (l : List T3) : V := .sl l.isEmpty 3 (l.map tv) none
def oneL (l : List RW) (n : Int) : Bool := decide ((l.length : Int) = n) && l.all fun r => decide (r.2.2.length = 1)
end Go.Proofs.YtfngpfnbhafmlaaGreatDoor
namespace Go.Proofs.YtfngpfnbhafmlaaGreatDoor
open Go Go.RowKit
set_option linter.unusedSimpArgs false
def partS (s : ByteArray) (p n : Int) : ByteArray := if (s.size : Int) < p then ⟨#[]⟩ else subV s p (p + (if (s.size : Int) - p < n then (s.size : Int) - p else n))
def hitB (a b : ByteArray) (i : Nat) : Bool := decide (subV b (i : Int) ((i : Int) + (a.size : Int)) = a)
def findS (a b : ByteArray) : T3 := match (List.range (b.size + 1 - a.size)).find? (hitB a b) with
 | some i => (1, ((i + 1 : Nat) : Int), ⟨#[]⟩)
 | none => (4, 7, ⟨#[]⟩)
end Go.Proofs.YtfngpfnbhafmlaaGreatDoor
namespace Go.Proofs.YtfngpfnbhafmlaaGreatDoor
open Go Go.RowKit
set_option linter.unusedSimpArgs false
def turnB (great : Bool) (b : UInt8) : UInt8 := if great = true then (if 97 ≤ b ∧ b ≤ 122 then b - 32 else b) else (if 65 ≤ b ∧ b ≤ 90 then b + 32 else b)
def turnS (great : Bool) (s : ByteArray) : ByteArray := ⟨s.data.map (turnB great)⟩
def numE (k n : Int) (s : ByteArray) : Option T3 := if rightB k n s = false then some (4, 3, ⟨#[]⟩) else if k = 0 ∨ k = 1 then none else if k = 4 then some (k, n, s) else some (4, 3, ⟨#[]⟩)
theorem numW_eq (k n : Int) (s : ByteArray) : numW k n s = match numE k n s with
 | none => .tup [.x (.int .i64 n), vl 0 0 ⟨#[]⟩, .x (.bool true)]
 | some w => .tup [.x (.int .i64 0), vl w.1 w.2.1 w.2.2, .x (.bool false)] := by
 unfold numW numE
 by_cases h1 : rightB k n s = false
 · rw [if_pos h1, if_pos h1]
 · rw [if_neg h1, if_neg h1]
   by_cases h2 : k = 0 ∨ k = 1
   · rw [if_pos h2, if_pos h2]
   · rw [if_neg h2, if_neg h2]
     by_cases h3 : k = 4
     · rw [if_pos h3, if_pos h3]
     · rw [if_neg h3, if_neg h3]
theorem FNum_no {k n : Int} {s : ByteArray} {wk wn : Int} {ws : ByteArray} (h : numE k n s = some (wk, wn, ws)) : FNum [.agg [.x (.int .i64 k), .x (.int .i64 n), .x (.string s)]] = some (.tup [.x (.int .i64 0), vl wk wn ws, .x (.bool false)]) := by
 show some (numW k n s) = _
 rw [numW_eq, h]
theorem FNum_yes {k n : Int} {s : ByteArray} (h : numE k n s = none) : FNum [.agg [.x (.int .i64 k), .x (.int .i64 n), .x (.string s)]] = some (.tup [.x (.int .i64 n), vl 0 0 ⟨#[]⟩, .x (.bool true)]) := by
 show some (numW k n s) = _
 rw [numW_eq, h]
def absW (n : Int) : T3 := if n < 0 then pairW ⟨#[45]⟩ 1 0 ⟨#[]⟩ 1 n ⟨#[]⟩ else (1, n, ⟨#[]⟩)
def signW (n : Int) : T3 := if n < 0 then (1, -1, ⟨#[]⟩) else if 0 < n then (1, 1, ⟨#[]⟩) else (1, 0, ⟨#[]⟩)
def oneW (name : ByteArray) (k n : Int) (s : ByteArray) : T3 :=
 if name = ⟨#[78, 79, 84]⟩ then (if k = 3 ∨ k = 0 then boolW (!decide (n = 1)) else (4, 3, ⟨#[]⟩))
 else if name = ⟨#[76, 69, 78]⟩ then (1, ((showB k n s).size : Int), ⟨#[]⟩)
 else if name = ⟨#[85, 80, 80, 69, 82]⟩ then textW (turnS true (showB k n s))
 else if name = ⟨#[76, 79, 87, 69, 82]⟩ then textW (turnS false (showB k n s))
 else if name = ⟨#[73, 83, 66, 76, 65, 78, 75]⟩ then boolW (decide (k = 0))
 else match numE k n s with
  | some w => w
  | none => if name = ⟨#[65, 66, 83]⟩ then absW n else signW n
theorem boolW_tv (b : Bool) : tv (boolW b) = vl 3 (if b then 1 else 0) ⟨#[]⟩ := rfl
end Go.Proofs.YtfngpfnbhafmlaaGreatDoor
namespace Go.Proofs.YtfngpfnbhafmlaaGreatDoor
open Go Go.RowKit
set_option linter.unusedSimpArgs false
def leftW (name s : ByteArray) (n : Int) : T3 := if name = ⟨#[76, 69, 70, 84]⟩ ∨ (s.size : Int) ≤ n then textW (partS s 0 n) else textW (partS s ((s.size : Int) - n) n)
def modW (x y : Int) : T3 := if y = 0 then (4, 2, ⟨#[]⟩) else if y = -1 then (1, 0, ⟨#[]⟩) else (1, x.tmod y, ⟨#[]⟩)
def twoW (name : ByteArray) (a b : T3) : T3 :=
 if name = ⟨#[70, 73, 78, 68]⟩ then findS (showB a.1 a.2.1 a.2.2) (showB b.1 b.2.1 b.2.2)
 else if name = ⟨#[77, 79, 68]⟩ then (match numE a.1 a.2.1 a.2.2 with
  | some w => w
  | none => match numE b.1 b.2.1 b.2.2 with
    | some w => w
    | none => modW a.2.1 b.2.1)
 else match numE b.1 b.2.1 b.2.2 with
  | some w => w
  | none => if b.2.1 < 0 then (4, 3, ⟨#[]⟩) else leftW name (showB a.1 a.2.1 a.2.2) b.2.1
def midW (a b c : T3) : T3 := match numE b.1 b.2.1 b.2.2 with
 | some w => w
 | none => match numE c.1 c.2.1 c.2.2 with
   | some w => w
   | none => if b.2.1 < 1 ∨ c.2.1 < 0 then (4, 3, ⟨#[]⟩) else textW (partS (showB a.1 a.2.1 a.2.2) (b.2.1 - 1) c.2.1)
end Go.Proofs.YtfngpfnbhafmlaaGreatDoor
