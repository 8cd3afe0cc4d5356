/- Formulas read: what both readers do, in plain words, as often as they are let. Nothing of the program. -/
import Derived.Test.YteibnmlfipkmeaaGreatDoorMT
import Derived.Test.YteibnmlfipkmeaaGreatDoorTkP
import Derived.Test.YteibnmlfipkmeaaGreatDoorAdP
import Derived.Lib.ReplaceLaws
import Derived.Test.YteibnmlfipkmeaaGreatDoorAdC
import Derived.Test.YteibnmlfipkmeaaGreatDoorMPO
import Derived.Test.YteibnmlfipkmeaaGreatDoorAdD
import Derived.Test.YteibnmlfipkmeaaGreatDoorShelf
import Derived.Lib.ParseIntBCases
namespace Go.Proofs.YteibnmlfipkmeaaGreatDoor
open Go Go.RowKit

/-- A node's fields, of which none is filled. -/
abbrev hz : Hd := ⟨0, ⟨#[]⟩, ⟨#[]⟩, 0, 0, ⟨#[]⟩, ⟨#[]⟩, 0, 0, ⟨#[]⟩, 0, 0⟩
abbrev zNd : Nd := .leaf hz
abbrev valNd (k n : Int) (s : ByteArray) : Nd := .leaf { hz with k := 1, vk := k, vn := n, vs := s }
abbrev cellNd (s : ByteArray) (c r : Int) : Nd := .leaf { hz with k := 2, cs := s, cc := c, cr := r }
abbrev rangeNd (s : ByteArray) (c r : Int) (s' : ByteArray) (c' r' : Int) : Nd := .leaf { hz with k := 3, cs := s, cc := c, cr := r, ts := s', tc := c', tr := r' }
abbrev unNd (op : ByteArray) (a : Nd) : Nd := .mk { hz with k := 4, op := op } [a]
abbrev pairNd (op : ByteArray) (a b : Nd) : Nd := .mk { hz with k := 5, op := op } [a, b]
abbrev callH (nm : ByteArray) : Hd := { hz with k := 6, nm := nm }
def callNd (nm : ByteArray) : List Nd → Nd
  | [] => .leaf (callH nm)
  | a :: l => .mk (callH nm) (a :: l)
abbrev badNd : Nd := .leaf { hz with k := 7 }

/-- The sign that a row of tokens begins with, or nothing. -/
def sgn : List Tk → ByteArray
  | [] => ⟨#[]⟩
  | t :: _ => if t.1 = 5 then B t.2.2 else ⟨#[]⟩
def atP (en : Int) : List Tk → Int
  | [] => en
  | t :: _ => (t.2.1 : Int)
/-- How much an op binds. -/
def rankP (s : ByteArray) : Nat :=
  if s = ⟨#[61]⟩ ∨ s = ⟨#[60, 62]⟩ ∨ s = ⟨#[60]⟩ ∨ s = ⟨#[62]⟩ ∨ s = ⟨#[60, 61]⟩ ∨ s = ⟨#[62, 61]⟩ then 1
  else if s = ⟨#[38]⟩ then 2 else if s = ⟨#[43]⟩ ∨ s = ⟨#[45]⟩ then 3 else if s = ⟨#[42]⟩ ∨ s = ⟨#[47]⟩ then 4 else 0
/-- A number of digits, if it is not too great. -/
def numP (l : List UInt8) : Option Nat := if 9223372036854775807 < rowN l then none else some (rowN l)
/-- A token that may be read: its text is not too long; a number's is digits alone. -/
def tkOK (t : Tk) : Prop := t.2.2.length ≤ 200 ∧ (t.1 = 1 → t.2.2 ≠ [] ∧ t.2.2.all dg = true)
instance (t : Tk) : Decidable (tkOK t) := by unfold tkOK; exact inferInstance

/-- What the project's reader is at. -/
inductive W where
  | formula | pairs (r : Nat) | unary | single | inner | word | call
abbrev RP := Nd × Int × List Tk

def skipP (en : Int) (s : ByteArray) (l : List Tk) : Option (Int × List Tk) := if sgn l = s then (match l with | [] => none | _ :: l' => some (-1, l')) else some (atP en l, l)
/-- A cell's column and row; what is left. -/
def cellP (sh : ByteArray) : List Tk → Option (Option (ByteArray × Int × Int) × List Tk)
  | [] => some (none, [])
  | t :: l => if t.1 = 3 then (if t.2.2.length ≤ 200 ∧ sh.size ≤ 200 then some (readA (sh ++ ⟨#[33]⟩ ++ B t.2.2), l) else none) else some (none, t :: l)
def ref2P (start : Int) (sh : ByteArray) (l : List Tk) : Option RP :=
  match cellP sh l with
  | none => none
  | some (none, l1) => some (zNd, start, l1)
  | some (some c, l1) => if sgn l1 = ⟨#[58]⟩ then
      match cellP sh l1.tail with
      | none => none
      | some (none, l3) => some (zNd, start, l3)
      | some (some d, l3) => if rangeB c.1 c.2.1 c.2.2 d.1 d.2.1 d.2.2 = true then some (rangeNd c.1 c.2.1 c.2.2 d.1 d.2.1 d.2.2, -1, l3) else some (zNd, start, l3)
    else some (cellNd c.1 c.2.1 c.2.2, -1, l1)
def refP (sh : ByteArray) : List Tk → Option RP
  | [] => none
  | t :: l => if t.1 = 4 then (if sgn l = ⟨#[33]⟩ then ref2P (t.2.1 : Int) (B t.2.2) l.tail else some (zNd, (t.2.1 : Int), l)) else ref2P (t.2.1 : Int) sh (t :: l)

def loopP (P : List Tk → Option RP) (r : Nat) : Nat → Nd → Int → List Tk → Option RP
  | 0, _, _, _ => none
  | k + 1, a, x, l => if x = -1 ∧ rankP (sgn l) = r then
      match l with
      | [] => none
      | t :: l' => match P l' with
        | some (b, x', l2) => loopP P r k (pairNd (B t.2.2) a b) x' l2
        | none => none
    else some (a, x, l)
def callsP (en : Int) (P : List Tk → Option RP) (nm : ByteArray) : Nat → List Nd → List Tk → Option RP
  | 0, _, _ => none
  | k + 1, ks, l => match P l with
    | none => none
    | some (kid, x, l1) => if x = -1 then
        if sgn l1 = ⟨#[44]⟩ ∧ ks.length + 1 ≠ 20 then callsP en P nm k (ks ++ [kid]) l1.tail
        else match skipP en ⟨#[41]⟩ l1 with
          | some (a, l2) => some (callNd nm (ks ++ [kid]), a, l2)
          | none => none
      else some (callNd nm ks, x, l1)
def stepP (sh : ByteArray) (en : Int) (k : Nat) (F : W → List Tk → Option RP) : W → List Tk → Option RP
  | .formula, l => F (.pairs 1) l
  | .pairs r, l => if 4 < r then F .unary l else if r = 0 then none else
      match F (.pairs (r + 1)) l with
      | some (a, x, l1) => loopP (F (.pairs (r + 1))) r k a x l1
      | none => none
  | .unary, l => if sgn l = ⟨#[45]⟩ then
      match l with
      | [] => none
      | t :: l' => match F .unary l' with
        | some (a, x, l2) => some (unNd (B t.2.2) a, x, l2)
        | none => none
    else F .single l
  | .single, [] => some (zNd, en, [])
  | .single, t :: l => if t.1 = 1 then
      if tkOK t then some (match numP t.2.2 with
        | some v => (valNd 1 (v : Int) ⟨#[]⟩, -1, l)
        | none => (zNd, (t.2.1 : Int), l)) else none
    else if t.1 = 2 then some (valNd 2 0 (B t.2.2), -1, l) else if t.1 = 3 then F .word (t :: l) else if t.1 = 4 then refP sh (t :: l)
    else if sgn (t :: l) = ⟨#[40]⟩ then F .inner (t :: l) else some (zNd, (t.2.1 : Int), t :: l)
  | .inner, [] => none
  | .inner, _ :: l => match F .formula l with
    | some (a, x, l2) => if x = -1 then (match skipP en ⟨#[41]⟩ l2 with
        | some (y, l3) => some (a, y, l3)
        | none => none) else some (a, x, l2)
    | none => none
  | .word, [] => none
  | .word, t :: l => if B t.2.2 = ⟨#[84, 82, 85, 69]⟩ then some (valNd 3 1 ⟨#[]⟩, -1, l) else if B t.2.2 = ⟨#[70, 65, 76, 83, 69]⟩ then some (valNd 3 0 ⟨#[]⟩, -1, l)
    else if sgn l = ⟨#[40]⟩ ∧ callB (B t.2.2) = true then F .call (t :: l)
    else if sgn l = ⟨#[33]⟩ ∧ B t.2.2 = ⟨#[82, 69, 70]⟩ then some (badNd, -1, l.tail) else refP sh (t :: l)
  | .call, t :: _ :: l => if sgn l = ⟨#[41]⟩ then some (callNd (B t.2.2) [], -1, l.tail) else callsP en (F .formula) (B t.2.2) k [] l
  | .call, _ => none
/-- The project's reader, let call itself n deep. -/
def pF (sh : ByteArray) (en : Int) : Nat → W → List Tk → Option RP
  | 0, _, _ => none
  | n + 1, w, l => stepP sh en n (pF sh en n) w l

/-- What the reference's reader is at. -/
inductive U where
  | pair (r : Nat) | unary | first | word | call (nm : ByteArray)
abbrev RR := Nd × Nat × Int
section
variable (L : List Tk) (en : Int) (sh : ByteArray)
def isP (i : Nat) (s : ByteArray) : Bool := match L[i]? with
  | some t => decide (t.1 = 5) && decide (B t.2.2 = s)
  | none => false
def atR (i : Nat) : Int := match L[i]? with
  | some t => (t.2.1 : Int)
  | none => en
def ranksP : Nat → List ByteArray
  | 0 => [⟨#[61]⟩, ⟨#[60, 62]⟩, ⟨#[60]⟩, ⟨#[62]⟩, ⟨#[60, 61]⟩, ⟨#[62, 61]⟩]
  | 1 => [⟨#[38]⟩]
  | 2 => [⟨#[43]⟩, ⟨#[45]⟩]
  | 3 => [⟨#[42]⟩, ⟨#[47]⟩]
  | _ => []
/-- Which of these signs is next; the last one counts. -/
def lastOp (i : Nat) (ops : List ByteArray) : ByteArray := ops.foldl (fun s o => if isP L i o = true then o else s) ⟨#[]⟩
def ref2R (start : Int) (s : ByteArray) (i : Nat) : Option RR :=
  match L[i]? with
  | none => some (zNd, i, start)
  | some t => if t.1 ≠ 3 then some (zNd, i, start) else if ¬ t.2.2.length ≤ 200 then none else
    match placeR (B t.2.2) s with
    | none => some (zNd, i, start)
    | some c => if isP L (i + 1) ⟨#[58]⟩ = true then
        match L[i + 2]? with
        | none => some (zNd, i + 2, start)
        | some u => if u.1 ≠ 3 then some (zNd, i + 2, start) else if ¬ u.2.2.length ≤ 200 then none else
          match placeR (B u.2.2) s with
          | none => some (zNd, i + 2, start)
          | some d => if rangeB c.1 c.2.1 c.2.2 d.1 d.2.1 d.2.2 = true then some (rangeNd c.1 c.2.1 c.2.2 d.1 d.2.1 d.2.2, i + 3, -1) else some (zNd, i + 2, start)
      else some (cellNd c.1 c.2.1 c.2.2, i + 1, -1)
def refR (i : Nat) : Option RR :=
  match L[i]? with
  | none => none
  | some t => if t.1 = 4 then (if isP L (i + 1) ⟨#[33]⟩ = true then ref2R L (t.2.1 : Int) (B t.2.2) (i + 2) else some (zNd, i + 1, (t.2.1 : Int))) else ref2R L (t.2.1 : Int) sh i
def loopR (P : Nat → Option RR) (r : Nat) : Nat → Nd → Nat → Int → Option RR
  | 0, _, _, _ => none
  | k + 1, a, i, x => if x = -1 then
      if lastOp L i (ranksP r) = ⟨#[]⟩ then some (a, i, x) else
      match P (i + 1) with
      | some (b, i', x') => loopR P r k (pairNd (lastOp L i (ranksP r)) a b) i' x'
      | none => none
    else if x < 0 then none else some (a, i, x)
def callsR (P : Nat → Option RR) (nm : ByteArray) : Nat → List Nd → Nat → Option RR
  | 0, _, _ => none
  | k + 1, ks, i => match P i with
    | none => none
    | some (kid, i1, x) => if 0 ≤ x then some (callNd nm (ks ++ [kid]), i1, x)
      else if x ≠ -1 then none
      else if isP L i1 ⟨#[41]⟩ = true then some (callNd nm (ks ++ [kid]), i1 + 1, -1)
      else if isP L i1 ⟨#[44]⟩ = true ∧ ks.length + 1 ≠ 20 then callsR P nm k (ks ++ [kid]) (i1 + 1)
      else some (zNd, i1, atR L en i1)
def stepR (k : Nat) (F : U → Nat → Option RR) : U → Nat → Option RR
  | .pair r, i => if r = 4 then F .unary i else if 4 < r then none else
      match F (.pair (r + 1)) i with
      | some (a, i1, x) => loopR L (F (.pair (r + 1))) r k a i1 x
      | none => none
  | .unary, i => if isP L i ⟨#[45]⟩ = true then
      match F .unary (i + 1) with
      | some (a, i2, x) => some (unNd ⟨#[45]⟩ a, i2, x)
      | none => none
    else F .first i
  | .first, i => match L[i]? with
    | none => some (zNd, i, en)
    | some t => if t.1 = 1 then
        if tkOK t then some (match numP t.2.2 with
          | some v => (valNd 1 (v : Int) ⟨#[]⟩, i + 1, -1)
          | none => (zNd, i, (t.2.1 : Int))) else none
      else if t.1 = 2 then some (valNd 2 0 (B t.2.2), i + 1, -1)
      else if isP L i ⟨#[40]⟩ = true then
        match F (.pair 0) (i + 1) with
        | some (a, i2, x) => if x = -1 then (if isP L i2 ⟨#[41]⟩ = false then some (zNd, i2, atR L en i2) else some (a, i2 + 1, -1)) else if x < 0 then none else if i2 ≤ 1000000 then some (a, i2 + 1, x) else none
        | none => none
      else if t.1 = 4 then refR L sh i else if t.1 = 3 then F .word i else some (zNd, i, (t.2.1 : Int))
  | .word, i => match L[i]? with
    | none => none
    | some t => if B t.2.2 = ⟨#[84, 82, 85, 69]⟩ then some (valNd 3 1 ⟨#[]⟩, i + 1, -1) else if B t.2.2 = ⟨#[70, 65, 76, 83, 69]⟩ then some (valNd 3 0 ⟨#[]⟩, i + 1, -1)
      else if callB (B t.2.2) = true ∧ isP L (i + 1) ⟨#[40]⟩ = true then F (.call (B t.2.2)) (i + 1)
      else if B t.2.2 = ⟨#[82, 69, 70]⟩ ∧ isP L (i + 1) ⟨#[33]⟩ = true then some (badNd, i + 2, -1) else refR L sh i
  | .call nm, i => if isP L (i + 1) ⟨#[41]⟩ = true then some (callNd nm [], i + 2, -1) else callsR L en (F (.pair 0)) nm k [] (i + 1)
/-- The reference's reader, let call itself n deep. -/
def rF : Nat → U → Nat → Option RR
  | 0, _, _ => none
  | n + 1, u, i => stepR L en sh n (rF n) u i
end
end Go.Proofs.YteibnmlfipkmeaaGreatDoor

/- The project's reader: its state, and what it asks of it. -/
namespace Go.Proofs.YteibnmlfipkmeaaGreatDoor
open Go Go.RowKit
set_option linter.unusedSimpArgs false
/-- Tokens, as they lie in memory. -/
def tks (l : List Tk) : List V := l.map tokV
theorem tks_nil : (tks []).length = 0 := rfl
theorem tks_len (t : Tk) (l : List Tk) : (tks (t :: l)).length = l.length + 1 := by simp [tks]
theorem tks_size (l : List Tk) : (tks l).length = l.length := by simp [tks]
theorem tks_0 (k i : Nat) (s : List UInt8) (l : List Tk) : (tks ((k, i, s) :: l))[0]? = some (.agg [.x (.int .i64 (k : Int)), .x (.int .i64 (i : Int)), .x (.string (B s))]) := rfl
theorem tks_tail (t : Tk) (l : List Tk) : ((tks (t :: l)).drop 1).take (((l.length + 1 : Nat) : Int).toNat - 1) = tks l := by
  have h : ((l.length + 1 : Nat) : Int).toNat - 1 = (tks l).length := by rw [tks_size]; omega
  rw [h]
  show (tks l).take (tks l).length = tks l
  exact List.take_length
theorem tokV_inj (a b : Tk) (e : tokV a = tokV b) : a = b := by
  obtain ⟨a1, a2, a3⟩ := a
  obtain ⟨b1, b2, b3⟩ := b
  simp only [tokV, V.agg.injEq, List.cons.injEq, V.x.injEq, Value.int.injEq, Value.string.injEq, true_and, and_true] at e
  obtain ⟨e1, e2, e3⟩ := e
  have e3 : a3 = b3 := congrArg (fun s : ByteArray => s.data.toList) e3
  obtain rfl : a1 = b1 := by omega
  obtain rfl : a2 = b2 := by omega
  rw [e3]
theorem tks_inj : ∀ (l l' : List Tk), tks l = tks l' → l = l'
  | [], [], _ => rfl
  | a :: l, b :: l', e => by
    have e : tokV a :: tks l = tokV b :: tks l' := e
    obtain ⟨h1, h2⟩ := List.cons.inj e
    rw [tokV_inj a b h1, tks_inj l l' h2]
  | [], b :: l', e => by cases e
  | a :: l, [], e => by cases e
/-- The project's reader: the sheet, what is left, the text's length. -/
structure Rq where
  sh : ByteArray
  nl : Bool
  l : List Tk
  en : Nat
abbrev rqL (sh : ByteArray) (nl : Bool) (l : List Tk) (en : Nat) : List V := [.x (.string sh), .sl nl 3 (tks l) none, .x (.int .i64 (en : Int))]
def rqV (p : Rq) : List V := rqL p.sh p.nl p.l p.en
theorem rqV_inj (p q : Rq) (e : rqV p = rqV q) : p = q := by
  obtain ⟨sh, nl, l, en⟩ := p
  obtain ⟨sh', nl', l', en'⟩ := q
  simp only [rqV, rqL, List.cons.injEq, V.sl.injEq, V.x.injEq, Value.int.injEq, Value.string.injEq, true_and, and_true] at e
  obtain ⟨rfl, ⟨rfl, e1⟩, e2⟩ := e
  obtain rfl := tks_inj _ _ e1
  obtain rfl : en = en' := by omega
  rfl
def encQ (p : Rq) : List V := [.bx (rqV p)]
theorem encQ_inj (p q : Rq) (e : encQ p = encQ q) : p = q := rqV_inj _ _ (V.bx.inj (List.cons.inj e).1)
def encQS (p : Rq × ByteArray) : List V := [.bx (rqV p.1), .x (.string p.2)]
theorem encQS_inj (p q : Rq × ByteArray) (e : encQS p = encQS q) : p = q := by
  obtain ⟨p1, p2⟩ := p
  obtain ⟨q1, q2⟩ := q
  simp only [encQS, List.cons.injEq, V.bx.injEq, V.x.injEq, Value.string.injEq, and_true] at e
  rw [rqV_inj _ _ e.1, e.2]
def encTs (p : Bool × List Tk) : List V := [.sl p.1 3 (tks p.2) none]
theorem encTs_inj (p q : Bool × List Tk) (e : encTs p = encTs q) : p = q := by
  obtain ⟨p1, p2⟩ := p
  obtain ⟨q1, q2⟩ := q
  simp only [encTs, List.cons.injEq, V.sl.injEq, true_and, and_true] at e
  rw [tks_inj _ _ e.2, e.1]
def GSgn (p : Bool × List Tk) : Option V := some (.x (.string (sgn p.2)))
theorem sgn_eq (nl : Bool) (l : List Tk) : FE encTs GSgn [.sl nl 3 (tks l) none] = some (.x (.string (sgn l))) := FE_at encTs_inj _ (nl, l)
section
variable (sh : ByteArray) (nl : Bool) (l : List Tk) (en : Nat)
def GAtP (p : Rq) : Option (V × List (List V)) := some (.x (.int .i64 (atP p.en p.l)), [rqV p])
theorem atP_eq : FE encQ GAtP [.bx (rqL sh nl l en)] = some (.x (.int .i64 (atP en l)), [rqL sh nl l en]) := FE_at encQ_inj _ ⟨sh, nl, l, en⟩
def GSign (p : Rq) : Option (V × List (List V)) := some (.x (.string (sgn p.l)), [rqV p])
theorem sign_eq : FE encQ GSign [.bx (rqL sh nl l en)] = some (.x (.string (sgn l)), [rqL sh nl l en]) := FE_at encQ_inj _ ⟨sh, nl, l, en⟩
def GBehind (p : Rq) : Option (V × List (List V)) := match p.l with
  | [] => none
  | _ :: l => some (.x (.string (sgn l)), [rqV p])
theorem behind_eq (t : Tk) : FE encQ GBehind [.bx (rqL sh nl (t :: l) en)] = some (.x (.string (sgn l)), [rqL sh nl (t :: l) en]) := FE_at encQ_inj _ ⟨sh, nl, t :: l, en⟩
def GTake (p : Rq) : Option (V × List (List V)) := match p.l with
  | [] => none
  | t :: l => some (.agg [.x (.int .i64 (t.1 : Int)), .x (.int .i64 (t.2.1 : Int)), .x (.string (B t.2.2))], [rqL p.sh p.nl l p.en])
theorem take_eq (k i : Nat) (s : List UInt8) : FE encQ GTake [.bx (rqL sh nl ((k, i, s) :: l) en)] = some (.agg [.x (.int .i64 (k : Int)), .x (.int .i64 (i : Int)), .x (.string (B s))], [rqL sh nl l en]) := FE_at encQ_inj _ ⟨sh, nl, (k, i, s) :: l, en⟩
def GSkip (p : Rq × ByteArray) : Option (V × List (List V)) := match skipP p.1.en p.2 p.1.l with
  | none => none
  | some (a, l) => some (.x (.int .i64 a), [rqL p.1.sh p.1.nl l p.1.en])
theorem skip_eq {s : ByteArray} {a : Int} {l' : List Tk} (h : skipP en s l = some (a, l')) : FE encQS GSkip [.bx (rqL sh nl l en), .x (.string s)] = some (.x (.int .i64 a), [rqL sh nl l' en]) := by
  refine (FE_at encQS_inj _ (⟨sh, nl, l, en⟩, s)).trans ?_
  simp only [GSkip, h]
/-- A cell that was found, or not. -/
def GCell (p : Rq × ByteArray) : Option (V × List (List V)) := match cellP p.2 p.1.l with
  | none => none
  | some (c, l) => some (ansV c, [rqL p.1.sh p.1.nl l p.1.en])
theorem cell_eq {s : ByteArray} {c : Option (ByteArray × Int × Int)} {l' : List Tk} (h : cellP s l = some (c, l')) : FE encQS GCell [.bx (rqL sh nl l en), .x (.string s)] = some (ansV c, [rqL sh nl l' en]) := by
  refine (FE_at encQS_inj _ (⟨sh, nl, l, en⟩, s)).trans ?_
  simp only [GCell, h]
end
set_option maxRecDepth 100000 in
theorem fsign_fun : FunV 108 (FE encTs GSgn) := by
  refine fun_of_run (E := envOf []) (k := 1) (envOK_of _ trivial) (by kernel_rfl) Tryz.func108 rfl (fun a w => Tryz.call108 a w) Tryz.ntmps108 (by kernel_rfl) (by decide) (by decide) ?_
  intro us r hF hdat
  obtain ⟨⟨nl, l⟩, hus, hG⟩ := FE_out hF
  clear hF
  subst hus
  have hF := hG
  clear hG
  cases hF
  simp only [encTs]
  refine ⟨rfl, ?_⟩
  cases l with
  | nil =>
    have e : sgn [] = ⟨#[]⟩ := rfl
    simp (decide := true) (maxDischargeDepth := 200) only [go_sem, tks_nil, e, Int.ofNat_zero, Int.natCast_zero, Tryz.results108]
  | cons t l =>
    obtain ⟨k, i, s⟩ := t
    have c1 : decide (((l.length + 1 : Nat) : Int) = 0) = false := decide_eq_false (by omega)
    by_cases hk : k = 5
    · subst hk
      have e : sgn ((5, i, s) :: l) = B s := rfl
      have c2 : decide (((5 : Nat) : Int) = 5) = true := rfl
      simp (decide := true) (maxDischargeDepth := 200) only [go_sem, tks_len, tks_0, c1, c2, e, Tryz.results108]
    · have e : sgn ((k, i, s) :: l) = ⟨#[]⟩ := if_neg hk
      have c2 : decide ((k : Int) = 5) = false := decide_eq_false (by omega)
      simp (decide := true) (maxDischargeDepth := 200) only [go_sem, tks_len, tks_0, c1, c2, e, Tryz.results108]

set_option maxRecDepth 100000 in
theorem sign_fun : FunPV 92 (FE encQ GSign) := by
  refine fun_of_runP (E := envP [(108, (FE encTs GSgn))] (fun _ => false) []) (k := 1) (envOK_P _ _ _ ⟨fsign_fun, trivial⟩ trivial) (fun _ _ => rfl) (by kernel_rfl) Tryz.func92 rfl (fun a w => Tryz.call92 a w) Tryz.ntmps92 (by kernel_rfl) (by decide) (by decide) ?_
  intro us r outs hF
  obtain ⟨⟨sh, nl, l, en⟩, hus, hG⟩ := FE_out hF
  clear hF
  subst hus
  have hF := hG
  clear hG
  cases hF
  simp only [encQ, rqV]
  refine ⟨rfl, ?_⟩
  simp (decide := true) (maxDischargeDepth := 200) only [go_sem, sgn_eq, Tryz.results92]

set_option maxRecDepth 100000 in
theorem behind_fun : FunPV 141 (FE encQ GBehind) := by
  refine fun_of_runP (E := envP [(108, (FE encTs GSgn))] (fun _ => false) []) (k := 1) (envOK_P _ _ _ ⟨fsign_fun, trivial⟩ trivial) (fun _ _ => rfl) (by kernel_rfl) Tryz.func141 rfl (fun a w => Tryz.call141 a w) Tryz.ntmps141 (by kernel_rfl) (by decide) (by decide) ?_
  intro us r outs hF
  obtain ⟨⟨sh, nl, l, en⟩, hus, hG⟩ := FE_out hF
  clear hF
  subst hus
  have hF := hG
  clear hG
  cases l with
  | nil => cases hF
  | cons t l =>
    cases hF
    simp only [encQ, rqV]
    refine ⟨rfl, ?_⟩
    have c1 : (1 : Int) ≤ ((l.length + 1 : Nat) : Int) := by omega
    simp (decide := true) (maxDischargeDepth := 200) only [go_sem, tks_len, tks_tail, sgn_eq, c1, Tryz.results141]

set_option maxRecDepth 100000 in
theorem atp_fun : FunPV 52 (FE encQ GAtP) := by
  refine fun_of_runP (E := envP [] (fun _ => false) []) (k := 1) (envOK_P _ _ _ trivial trivial) (fun _ _ => rfl) (by kernel_rfl) Tryz.func52 rfl (fun a w => Tryz.call52 a w) Tryz.ntmps52 (by kernel_rfl) (by decide) (by decide) ?_
  intro us r outs hF
  obtain ⟨⟨sh, nl, l, en⟩, hus, hG⟩ := FE_out hF
  clear hF
  subst hus
  have hF := hG
  clear hG
  cases hF
  simp only [encQ, rqV]
  refine ⟨rfl, ?_⟩
  cases l with
  | nil =>
    have e : atP (en : Int) [] = (en : Int) := rfl
    simp (decide := true) (maxDischargeDepth := 200) only [go_sem, tks_nil, e, Int.ofNat_zero, Int.natCast_zero, Tryz.results52]
  | cons t l =>
    obtain ⟨k, i, s⟩ := t
    have c1 : decide (((l.length + 1 : Nat) : Int) = 0) = false := decide_eq_false (by omega)
    have e : atP en ((k, i, s) :: l) = (i : Int) := rfl
    simp (decide := true) (maxDischargeDepth := 200) only [go_sem, tks_len, tks_0, c1, e, Tryz.results52]

set_option maxRecDepth 100000 in
theorem take_fun : FunPV 93 (FE encQ GTake) := by
  refine fun_of_runP (E := envP [] (fun _ => false) []) (k := 1) (envOK_P _ _ _ trivial trivial) (fun _ _ => rfl) (by kernel_rfl) Tryz.func93 rfl (fun a w => Tryz.call93 a w) Tryz.ntmps93 (by kernel_rfl) (by decide) (by decide) ?_
  intro us r outs hF
  obtain ⟨⟨sh, nl, l, en⟩, hus, hG⟩ := FE_out hF
  clear hF
  subst hus
  have hF := hG
  clear hG
  cases l with
  | nil => cases hF
  | cons t l =>
    obtain ⟨k, i, s⟩ := t
    cases hF
    simp only [encQ, rqV]
    refine ⟨rfl, ?_⟩
    have c1 : (1 : Int) ≤ ((l.length + 1 : Nat) : Int) := by omega
    simp (decide := true) (maxDischargeDepth := 200) only [go_sem, tks_len, tks_0, tks_tail, c1, Tryz.results93]

set_option maxRecDepth 100000 in
theorem skip_fun : FunPV 143 (FE encQS GSkip) := by
  refine fun_of_runP (E := envP [] (fun _ => false) [(92, (FE encQ GSign)), (52, (FE encQ GAtP)), (93, (FE encQ GTake))]) (k := 2) (envOK_P _ _ _ trivial ⟨sign_fun, atp_fun, take_fun, trivial⟩) (fun _ _ => rfl) (by kernel_rfl) Tryz.func143 rfl (fun a w => Tryz.call143 a w) Tryz.ntmps143 (by kernel_rfl) (by decide) (by decide) ?_
  intro us r outs hF
  obtain ⟨⟨⟨sh, nl, l, en⟩, s⟩, hus, hG⟩ := FE_out hF
  clear hF
  subst hus
  have hF := hG
  clear hG
  simp only [GSkip, skipP] at hF
  simp only [encQS, rqV]
  by_cases hs : sgn l = s
  · rw [if_pos hs] at hF
    cases l with
    | nil => cases hF
    | cons t l =>
      obtain ⟨k, i, q⟩ := t
      cases hF
      refine ⟨rfl, ?_⟩
      have c1 : decide (sgn ((k, i, q) :: l) = s) = true := decide_eq_true hs
      simp (decide := true) (maxDischargeDepth := 200) only [go_sem, sign_eq, take_eq, c1, Tryz.results143]
  · rw [if_neg hs] at hF
    cases hF
    refine ⟨rfl, ?_⟩
    have c1 : decide (sgn l = s) = false := decide_eq_false hs
    simp (decide := true) (maxDischargeDepth := 200) only [go_sem, sign_eq, atP_eq, c1, Tryz.results143]

def FRank : List V → Option V
  | [.x (.string s)] => some (.x (.int .i64 (rankP s : Int)))
  | _ => none
set_option maxRecDepth 100000 in
theorem rank_fun : FunV 91 FRank := by
  refine fun_of_run (E := envOf []) (k := 1) (envOK_of _ trivial) (by kernel_rfl) Tryz.func91 rfl (fun a w => Tryz.call91 a w) Tryz.ntmps91 (by kernel_rfl) (by decide) (by decide) ?_
  intro us r hF hdat
  unfold FRank at hF
  split at hF
  case h_2 => cases hF
  rename_i s
  cases hF
  refine ⟨rfl, ?_⟩
  by_cases h0 : s = ⟨#[61]⟩
  · have e : (rankP s : Int) = 1 := by subst h0; decide
    have d0 : decide (s = ⟨#[61]⟩) = true := decide_eq_true h0
    simp (decide := true) (maxDischargeDepth := 200) only [go_sem, e, d0, Tryz.results91]
  by_cases h1 : s = ⟨#[60, 62]⟩
  · have e : (rankP s : Int) = 1 := by subst h1; decide
    have d0 : decide (s = ⟨#[61]⟩) = false := decide_eq_false h0
    have d1 : decide (s = ⟨#[60, 62]⟩) = true := decide_eq_true h1
    simp (decide := true) (maxDischargeDepth := 200) only [go_sem, e, d0, d1, Tryz.results91]
  by_cases h2 : s = ⟨#[60]⟩
  · have e : (rankP s : Int) = 1 := by subst h2; decide
    have d0 : decide (s = ⟨#[61]⟩) = false := decide_eq_false h0
    have d1 : decide (s = ⟨#[60, 62]⟩) = false := decide_eq_false h1
    have d2 : decide (s = ⟨#[60]⟩) = true := decide_eq_true h2
    simp (decide := true) (maxDischargeDepth := 200) only [go_sem, e, d0, d1, d2, Tryz.results91]
  by_cases h3 : s = ⟨#[62]⟩
  · have e : (rankP s : Int) = 1 := by subst h3; decide
    have d0 : decide (s = ⟨#[61]⟩) = false := decide_eq_false h0
    have d1 : decide (s = ⟨#[60, 62]⟩) = false := decide_eq_false h1
    have d2 : decide (s = ⟨#[60]⟩) = false := decide_eq_false h2
    have d3 : decide (s = ⟨#[62]⟩) = true := decide_eq_true h3
    simp (decide := true) (maxDischargeDepth := 200) only [go_sem, e, d0, d1, d2, d3, Tryz.results91]
  by_cases h4 : s = ⟨#[60, 61]⟩
  · have e : (rankP s : Int) = 1 := by subst h4; decide
    have d0 : decide (s = ⟨#[61]⟩) = false := decide_eq_false h0
    have d1 : decide (s = ⟨#[60, 62]⟩) = false := decide_eq_false h1
    have d2 : decide (s = ⟨#[60]⟩) = false := decide_eq_false h2
    have d3 : decide (s = ⟨#[62]⟩) = false := decide_eq_false h3
    have d4 : decide (s = ⟨#[60, 61]⟩) = true := decide_eq_true h4
    simp (decide := true) (maxDischargeDepth := 200) only [go_sem, e, d0, d1, d2, d3, d4, Tryz.results91]
  by_cases h5 : s = ⟨#[62, 61]⟩
  · have e : (rankP s : Int) = 1 := by subst h5; decide
    have d0 : decide (s = ⟨#[61]⟩) = false := decide_eq_false h0
    have d1 : decide (s = ⟨#[60, 62]⟩) = false := decide_eq_false h1
    have d2 : decide (s = ⟨#[60]⟩) = false := decide_eq_false h2
    have d3 : decide (s = ⟨#[62]⟩) = false := decide_eq_false h3
    have d4 : decide (s = ⟨#[60, 61]⟩) = false := decide_eq_false h4
    have d5 : decide (s = ⟨#[62, 61]⟩) = true := decide_eq_true h5
    simp (decide := true) (maxDischargeDepth := 200) only [go_sem, e, d0, d1, d2, d3, d4, d5, Tryz.results91]
  by_cases h6 : s = ⟨#[38]⟩
  · have e : (rankP s : Int) = 2 := by subst h6; decide
    have d0 : decide (s = ⟨#[61]⟩) = false := decide_eq_false h0
    have d1 : decide (s = ⟨#[60, 62]⟩) = false := decide_eq_false h1
    have d2 : decide (s = ⟨#[60]⟩) = false := decide_eq_false h2
    have d3 : decide (s = ⟨#[62]⟩) = false := decide_eq_false h3
    have d4 : decide (s = ⟨#[60, 61]⟩) = false := decide_eq_false h4
    have d5 : decide (s = ⟨#[62, 61]⟩) = false := decide_eq_false h5
    have d6 : decide (s = ⟨#[38]⟩) = true := decide_eq_true h6
    simp (decide := true) (maxDischargeDepth := 200) only [go_sem, e, d0, d1, d2, d3, d4, d5, d6, Tryz.results91]
  by_cases h7 : s = ⟨#[43]⟩
  · have e : (rankP s : Int) = 3 := by subst h7; decide
    have d0 : decide (s = ⟨#[61]⟩) = false := decide_eq_false h0
    have d1 : decide (s = ⟨#[60, 62]⟩) = false := decide_eq_false h1
    have d2 : decide (s = ⟨#[60]⟩) = false := decide_eq_false h2
    have d3 : decide (s = ⟨#[62]⟩) = false := decide_eq_false h3
    have d4 : decide (s = ⟨#[60, 61]⟩) = false := decide_eq_false h4
    have d5 : decide (s = ⟨#[62, 61]⟩) = false := decide_eq_false h5
    have d6 : decide (s = ⟨#[38]⟩) = false := decide_eq_false h6
    have d7 : decide (s = ⟨#[43]⟩) = true := decide_eq_true h7
    simp (decide := true) (maxDischargeDepth := 200) only [go_sem, e, d0, d1, d2, d3, d4, d5, d6, d7, Tryz.results91]
  by_cases h8 : s = ⟨#[45]⟩
  · have e : (rankP s : Int) = 3 := by subst h8; decide
    have d0 : decide (s = ⟨#[61]⟩) = false := decide_eq_false h0
    have d1 : decide (s = ⟨#[60, 62]⟩) = false := decide_eq_false h1
    have d2 : decide (s = ⟨#[60]⟩) = false := decide_eq_false h2
    have d3 : decide (s = ⟨#[62]⟩) = false := decide_eq_false h3
    have d4 : decide (s = ⟨#[60, 61]⟩) = false := decide_eq_false h4
    have d5 : decide (s = ⟨#[62, 61]⟩) = false := decide_eq_false h5
    have d6 : decide (s = ⟨#[38]⟩) = false := decide_eq_false h6
    have d7 : decide (s = ⟨#[43]⟩) = false := decide_eq_false h7
    have d8 : decide (s = ⟨#[45]⟩) = true := decide_eq_true h8
    simp (decide := true) (maxDischargeDepth := 200) only [go_sem, e, d0, d1, d2, d3, d4, d5, d6, d7, d8, Tryz.results91]
  by_cases h9 : s = ⟨#[42]⟩
  · have e : (rankP s : Int) = 4 := by subst h9; decide
    have d0 : decide (s = ⟨#[61]⟩) = false := decide_eq_false h0
    have d1 : decide (s = ⟨#[60, 62]⟩) = false := decide_eq_false h1
    have d2 : decide (s = ⟨#[60]⟩) = false := decide_eq_false h2
    have d3 : decide (s = ⟨#[62]⟩) = false := decide_eq_false h3
    have d4 : decide (s = ⟨#[60, 61]⟩) = false := decide_eq_false h4
    have d5 : decide (s = ⟨#[62, 61]⟩) = false := decide_eq_false h5
    have d6 : decide (s = ⟨#[38]⟩) = false := decide_eq_false h6
    have d7 : decide (s = ⟨#[43]⟩) = false := decide_eq_false h7
    have d8 : decide (s = ⟨#[45]⟩) = false := decide_eq_false h8
    have d9 : decide (s = ⟨#[42]⟩) = true := decide_eq_true h9
    simp (decide := true) (maxDischargeDepth := 200) only [go_sem, e, d0, d1, d2, d3, d4, d5, d6, d7, d8, d9, Tryz.results91]
  by_cases h10 : s = ⟨#[47]⟩
  · have e : (rankP s : Int) = 4 := by subst h10; decide
    have d0 : decide (s = ⟨#[61]⟩) = false := decide_eq_false h0
    have d1 : decide (s = ⟨#[60, 62]⟩) = false := decide_eq_false h1
    have d2 : decide (s = ⟨#[60]⟩) = false := decide_eq_false h2
    have d3 : decide (s = ⟨#[62]⟩) = false := decide_eq_false h3
    have d4 : decide (s = ⟨#[60, 61]⟩) = false := decide_eq_false h4
    have d5 : decide (s = ⟨#[62, 61]⟩) = false := decide_eq_false h5
    have d6 : decide (s = ⟨#[38]⟩) = false := decide_eq_false h6
    have d7 : decide (s = ⟨#[43]⟩) = false := decide_eq_false h7
    have d8 : decide (s = ⟨#[45]⟩) = false := decide_eq_false h8
    have d9 : decide (s = ⟨#[42]⟩) = false := decide_eq_false h9
    have d10 : decide (s = ⟨#[47]⟩) = true := decide_eq_true h10
    simp (decide := true) (maxDischargeDepth := 200) only [go_sem, e, d0, d1, d2, d3, d4, d5, d6, d7, d8, d9, d10, Tryz.results91]
  have e : (rankP s : Int) = 0 := by simp [rankP, h0, h1, h2, h3, h4, h5, h6, h7, h8, h9, h10]
  have d0 : decide (s = ⟨#[61]⟩) = false := decide_eq_false h0
  have d1 : decide (s = ⟨#[60, 62]⟩) = false := decide_eq_false h1
  have d2 : decide (s = ⟨#[60]⟩) = false := decide_eq_false h2
  have d3 : decide (s = ⟨#[62]⟩) = false := decide_eq_false h3
  have d4 : decide (s = ⟨#[60, 61]⟩) = false := decide_eq_false h4
  have d5 : decide (s = ⟨#[62, 61]⟩) = false := decide_eq_false h5
  have d6 : decide (s = ⟨#[38]⟩) = false := decide_eq_false h6
  have d7 : decide (s = ⟨#[43]⟩) = false := decide_eq_false h7
  have d8 : decide (s = ⟨#[45]⟩) = false := decide_eq_false h8
  have d9 : decide (s = ⟨#[42]⟩) = false := decide_eq_false h9
  have d10 : decide (s = ⟨#[47]⟩) = false := decide_eq_false h10
  simp (decide := true) (maxDischargeDepth := 200) only [go_sem, e, d0, d1, d2, d3, d4, d5, d6, d7, d8, d9, d10, Tryz.results91]

def FVal : List V → Option V
  | [.agg [.x (.int .i64 k), .x (.int .i64 n), .x (.string s)]] => some (.tup [nodeV (valNd k n s), .x (.int .i64 (-1))])
  | _ => none
/-- A value's node, laid out. -/
theorem nodeV_val (k n : Int) (s : ByteArray) : nodeV (valNd k n s) = .agg [.x (.int .i64 1), .x (.string ⟨#[]⟩), .x (.string ⟨#[]⟩), .x (.int .i64 k), .x (.int .i64 n), .x (.string s), .x (.string ⟨#[]⟩), .x (.int .i64 0), .x (.int .i64 0), .x (.string ⟨#[]⟩), .x (.int .i64 0), .x (.int .i64 0), .sl true 0 [] none] := by rw [nodeV]; rfl
set_option maxRecDepth 100000 in
theorem val_fun : FunV 127 FVal := by
  refine fun_of_run (E := envOf []) (k := 1) (envOK_of _ trivial) (by kernel_rfl) Tryz.func127 rfl (fun a w => Tryz.call127 a w) Tryz.ntmps127 (by kernel_rfl) (by decide) (by decide) ?_
  intro us r hF hdat
  unfold FVal at hF
  split at hF
  case h_2 => cases hF
  rename_i k n s
  cases hF
  refine ⟨rfl, ?_⟩
  rw [nodeV_val]
  simp (decide := true) (maxDischargeDepth := 200) only [go_sem, Tryz.results127]

set_option maxRecDepth 100000 in
theorem cell_fun : FunPV 144 (FE encQS GCell) := by
  refine fun_of_runP (E := envP [(149, FReadA)] (fun _ => false) [(93, (FE encQ GTake))]) (k := 2) (envOK_P _ _ _ ⟨read_fun, trivial⟩ ⟨take_fun, trivial⟩) (fun _ _ => rfl) (by kernel_rfl) Tryz.func144 rfl (fun a w => Tryz.call144 a w) Tryz.ntmps144 (by kernel_rfl) (by decide) (by decide) ?_
  intro us r outs hF
  obtain ⟨⟨⟨sh, nl, l, en⟩, s⟩, hus, hG⟩ := FE_out hF
  clear hF
  subst hus
  have hF := hG
  clear hG
  simp only [GCell] at hF
  simp only [encQS, rqV]
  cases l with
  | nil =>
    cases hF
    refine ⟨rfl, ?_⟩
    have e : ansV none = .tup [cl ⟨#[]⟩ 0 0, .x (.bool false)] := rfl
    simp (decide := true) (maxDischargeDepth := 200) only [go_sem, tks_nil, e, cl, Int.ofNat_zero, Int.natCast_zero, Tryz.results144]
  | cons t l =>
    obtain ⟨k, i, q⟩ := t
    have c1 : decide (((l.length + 1 : Nat) : Int) = 0) = false := decide_eq_false (by omega)
    simp only [cellP] at hF
    by_cases hk : k = 3
    · subst hk
      rw [if_pos rfl] at hF
      split at hF
      · cases hF
      rename_i c0 l0 hc
      split at hc
      case isFalse => cases hc
      rename_i hlen
      cases hc
      cases hF
      refine ⟨rfl, ?_⟩
      have c2 : decide (((3 : Nat) : Int) = 3) = true := rfl
      have z1 : s.size + (⟨#[33]⟩ : ByteArray).size ≤ 9223372036854775807 := by have : (⟨#[33]⟩ : ByteArray).size = 1 := rfl; omega
      have z2 : (s ++ ⟨#[33]⟩).size + (B q).size ≤ 9223372036854775807 := by
        have : (⟨#[33]⟩ : ByteArray).size = 1 := rfl
        rw [ByteArray.size_append, B_size]; omega
      have z3 : (s ++ ⟨#[33]⟩ ++ B q).size ≤ 1000 := by
        have : (⟨#[33]⟩ : ByteArray).size = 1 := rfl
        rw [ByteArray.size_append, ByteArray.size_append, B_size]; omega
      have w1 := catV_ok z1
      have w2 := catV_ok z2
      have e : FReadA [.x (.string (s ++ ⟨#[33]⟩ ++ B q))] = some (ansV (readA (s ++ ⟨#[33]⟩ ++ B q))) := if_pos z3
      cases hr : readA (s ++ ⟨#[33]⟩ ++ B q) with
      | none =>
        have e2 : ansV none = .tup [cl ⟨#[]⟩ 0 0, .x (.bool false)] := rfl
        rw [hr] at e
        simp (decide := true) (maxDischargeDepth := 200) only [go_sem, tks_len, tks_0, take_eq, c1, c2, w1, w2, e, e2, cl, Tryz.results144]
      | some r =>
        obtain ⟨a, b, c⟩ := r
        have e2 : ansV (some (a, b, c)) = .tup [cl a b c, .x (.bool true)] := rfl
        rw [hr] at e
        simp (decide := true) (maxDischargeDepth := 200) only [go_sem, tks_len, tks_0, take_eq, c1, c2, w1, w2, e, e2, cl, Tryz.results144]
    · rw [if_neg hk] at hF
      cases hF
      refine ⟨rfl, ?_⟩
      have c2 : decide ((k : Int) = 3) = false := decide_eq_false (by omega)
      have e : ansV none = .tup [cl ⟨#[]⟩ 0 0, .x (.bool false)] := rfl
      simp (decide := true) (maxDischargeDepth := 200) only [go_sem, tks_len, tks_0, c1, c2, e, cl, Tryz.results144]

end Go.Proofs.YteibnmlfipkmeaaGreatDoor

/- Numbers of formulas: read by the library, and by the reference. -/
namespace Go.Proofs.YteibnmlfipkmeaaGreatDoor
open Go Go.RowKit
set_option linter.unusedSimpArgs false
/-- What digits spell behind a number. -/
def accA (a : Nat) (l : List UInt8) : Nat := l.foldl (fun r b => 10 * r + (b.toNat - 48)) a
theorem rowA_ge (l : List UInt8) : ∀ a, a ≤ accA a l := by
  induction l with
  | nil => intro a; exact Nat.le_refl _
  | cons b l ih =>
    intro a
    have := ih (10 * a + (b.toNat - 48))
    show a ≤ accA (10 * a + (b.toNat - 48)) l
    omega
theorem parseM (l : List UInt8) : ∀ a, l.all dg = true → a ≤ 18446744073709551615 → Lib.parseUintM 18446744073709551615 a l = if accA a l ≤ 18446744073709551615 then .ok (accA a l) else .range := by
  induction l with
  | nil => intro a _ ha; rw [show accA a [] = a from rfl, if_pos ha]; rfl
  | cons b l ih =>
    intro a h ha
    rw [List.all_cons, Bool.and_eq_true] at h
    have hd := h.1
    simp only [dg, Bool.and_eq_true, decide_eq_true_eq] at hd
    have hb : 48 ≤ b.toNat ∧ b.toNat ≤ 57 := by omega
    unfold Lib.parseUintM
    rw [if_pos hb]
    have hr : accA a (b :: l) = accA (10 * a + (b.toNat - 48)) l := rfl
    have hge := rowA_ge l (10 * a + (b.toNat - 48))
    rw [hr]
    by_cases h1 : 1844674407370955162 ≤ a
    · rw [if_pos h1, if_neg (by omega)]
    · rw [if_neg h1]
      by_cases h2 : 18446744073709551615 < a * 10 + (b.toNat - 48)
      · rw [if_pos h2, if_neg (by omega)]
      · rw [if_neg h2, show a * 10 + (b.toNat - 48) = 10 * a + (b.toNat - 48) from by omega]
        exact ih _ h.2 (by omega)
theorem parseB {l : List UInt8} (h0 : l ≠ []) (h : l.all dg = true) : Lib.parseIntB 64 l = match numP l with | some v => .ok (v : Int) | none => .range := by
  have hU : Lib.parseUintB 64 l = if rowN l ≤ 18446744073709551615 then .ok (rowN l) else .range := by
    unfold Lib.parseUintB
    rw [if_neg h0]
    exact parseM l 0 h (by omega)
  cases l with
  | nil => exact absurd rfl h0
  | cons b l =>
    have hd := h
    rw [List.all_cons, Bool.and_eq_true] at hd
    have hd := hd.1
    simp only [dg, Bool.and_eq_true, decide_eq_true_eq] at hd
    rw [Lib.parseIntB_plain 64 b l (by omega) (by omega), hU]
    unfold numP
    by_cases h1 : rowN (b :: l) ≤ 18446744073709551615
    · rw [if_pos h1]
      unfold Lib.signlessC
      by_cases h2 : 9223372036854775807 < rowN (b :: l)
      · rw [if_pos h2]
        simp only
        rw [if_pos (show 2 ^ (64 - 1) ≤ rowN (b :: l) by omega)]
      · rw [if_neg h2]
        simp only
        rw [if_neg (show ¬ 2 ^ (64 - 1) ≤ rowN (b :: l) by omega)]
    · rw [if_neg h1, if_pos (show 9223372036854775807 < rowN (b :: l) by omega)]
      rfl
/-- strconv.ParseInt of digits, base 10, 64 bits. -/
def FPInt : List V → Option V
  | [.x (.string s), .x (.int .i64 10), .x (.int .i64 64)] => if s.size ≤ 200 ∧ s.data.toList ≠ [] ∧ s.data.toList.all dg = true then
      match numP s.data.toList with
      | some v => some (.tup [.x (.int .i64 (v : Int)), .x .nilIface])
      | none => some (.tup [.x (.int .i64 (Lib.intSat 64 s.data.toList)), .dyn 154])
    else none
  | _ => none
theorem pint_fun : FunV 140 FPInt := by
  refine ⟨fun a w => Tryz.call140 a w, fun m w vs us r hF hd hr hj hg => ?_⟩
  unfold FPInt at hF
  split at hF
  case h_2 => cases hF
  rename_i s
  split at hF
  case isFalse => cases hF
  rename_i hs
  obtain ⟨hs, h0, hdg⟩ := hs
  obtain rfl := args_eq (xs := [.string s, .int .i64 10, .int .i64 64]) hr rfl
  have hp := parseB h0 hdg
  cases hv : numP s.data.toList with
  | some v =>
    rw [hv] at hF hp
    cases hF
    refine (Tryz.strconv_ParseInt_10_at64_ok s (by omega) v hp w).mono ?_
    rintro e w' ⟨rfl, hw⟩
    refine ⟨_, m, rfl, Rd.tup_iff.2 ⟨_, rfl, .x _, .x _, trivial⟩, ?_, fun _ _ => rfl⟩
    rcases hw with rfl | ⟨t, rfl⟩
    · exact Below.refl _ _
    · exact Lib.bytesWorld_below _ _ _
  | none =>
    rw [hv] at hF hp
    cases hF
    obtain ⟨tp, p, hvar⟩ := hj.rng
    have hc := World.var?_cell grng hvar 0
    refine (Tryz.strconv_ParseInt_10_at64_range s (by omega) hp (.iface tp p) w hc (.inr ⟨tp, p, rfl⟩)).mono ?_
    rintro e w' ⟨N, rfl, _, _, hb⟩
    exact ⟨_, m, rfl, Rd.tup_iff.2 ⟨_, rfl, .x _, .dyn _ _, trivial⟩, hb, fun _ _ => rfl⟩
theorem FPInt_eq {l : List UInt8} (h1 : l.length ≤ 200) (h2 : l ≠ [] ∧ l.all dg = true) : FPInt [.x (.string (B l)), .x (.int .i64 10), .x (.int .i64 64)] = match numP l with
      | some v => some (.tup [.x (.int .i64 (v : Int)), .x .nilIface])
      | none => some (.tup [.x (.int .i64 (Lib.intSat 64 l)), .dyn 154]) := if_pos ⟨by rw [B_size]; exact h1, h2.1, h2.2⟩

/- The reference's numbers. -/
theorem u64_of {x : Int} (h0 : 0 ≤ x) (h1 : x < 18446744073709551616) : bWrap .u64 x = x := by
  rw [bWrap_eq]
  simp only [IntKind.wrap, IntKind.bits, IntKind.signed]
  simp
  omega
theorem i64_of {x : Int} (h0 : -9223372036854775808 ≤ x) (h1 : x ≤ 9223372036854775807) : bWrap .i64 x = x := bwrap_of (by unfold inR; omega)
def FNum : List V → Option V
  | [.x (.string s)] => if s.size ≤ 200 ∧ s.data.toList.all dg = true then
      match numP s.data.toList with
      | some v => some (.tup [.x (.int .i64 (v : Int)), .x (.bool true)])
      | none => some (.tup [.x (.int .i64 0), .x (.bool false)])
    else none
  | _ => none
theorem FNum_eq {l : List UInt8} (h1 : l.length ≤ 200) (h2 : l.all dg = true) : FNum [.x (.string (B l))] = match numP l with
      | some v => some (.tup [.x (.int .i64 (v : Int)), .x (.bool true)])
      | none => some (.tup [.x (.int .i64 0), .x (.bool false)]) := if_pos ⟨by rw [B_size]; exact h1, h2⟩
theorem rowN_take {l : List UInt8} {i : Nat} {b : UInt8} (hb : l[i]? = some b) : rowN (l.take (i + 1)) = 10 * rowN (l.take i) + (b.toNat - 48) := by
  rw [List.take_add_one, hb]
  show rowN (l.take i ++ [b]) = _
  unfold rowN
  rw [List.foldl_append]
  rfl
theorem rowN_mono (l : List UInt8) (i : Nat) : rowN (l.take i) ≤ rowN l := by
  have h : rowN l = accA (rowN (l.take i)) (l.drop i) := by
    unfold rowN accA
    rw [← List.foldl_append, List.take_append_drop]
  rw [h]
  exact rowA_ge _ _
set_option maxRecDepth 100000 in
theorem number_fun : FunV 94 FNum := by
  refine fun_of_run (E := envOf []) (k := 1) (envOK_of _ trivial) (by kernel_rfl) Tryz.func94 rfl (fun a w => Tryz.call94 a w) Tryz.ntmps94 (by kernel_rfl) (by decide) (by decide) ?_
  intro us r hF hdat
  unfold FNum at hF
  split at hF
  case h_2 => cases hF
  rename_i s
  split at hF
  case isFalse => cases hF
  rename_i hs
  obtain ⟨l, rfl⟩ := B_of s
  rw [B_size] at hs
  obtain ⟨hs, hdg⟩ := hs
  have hdg : l.all dg = true := hdg
  have hF : (match numP l with
      | some v => some (V.tup [.x (.int .i64 (v : Int)), .x (.bool true)])
      | none => some (V.tup [.x (.int .i64 0), .x (.bool false)])) = some r := hF
  refine ⟨rfl, ?_⟩
  simp (decide := true) (maxDischargeDepth := 200) only [go_sem, Tryz.results94]
  refine loop_of (X := {i : Nat // i ≤ l.length ∧ rowN (l.take i) ≤ 9223372036854775807}) (fun i => [(0, .x (.string (B l))), (4, .x (.int .u64 (rowN (l.take i.1) : Int))), (5, .x (.int .i64 (i.1 : Int)))]) (fun _ => []) (fun i => l.length - i.1) ⟨0, Nat.zero_le _, by simp [rowN]⟩ (by simp (decide := true) only [go_sem] <;> (repeat' first | rfl | constructor)) (by simp (decide := true) only [go_sem] <;> (repeat' first | rfl | constructor)) (fun ⟨i, hi, hr⟩ => ?_)
  by_cases hlt : i < l.length
  · obtain ⟨b, hb⟩ := get_of hlt
    have hbd : dg b = true := List.all_eq_true.1 hdg b (List.mem_of_getElem? hb)
    simp only [dg, Bool.and_eq_true, decide_eq_true_eq] at hbd
    have c1 : decide ((i : Int) < ((B l).size : Int)) = true := decide_eq_true (by rw [B_size]; omega)
    have c2 : (0 : Int) ≤ (i : Int) := by omega
    have c3 : (i : Int) < ((B l).size : Int) := by rw [B_size]; omega
    have c4 := byteV_B hb
    have hb256 : b.toNat < 256 := UInt8.toNat_lt b
    have c5 : bWrap .u8 (((b.toNat : Nat) : Int) - 48) = ((b.toNat - 48 : Nat) : Int) := u8_sub (c := 48) (by omega) hb256
    have c6 : bWrap .u64 ((b.toNat - 48 : Nat) : Int) = ((b.toNat - 48 : Nat) : Int) := u64_of (by omega) (by omega)
    have c7 : bWrap .u64 (9223372036854775807 - ((b.toNat - 48 : Nat) : Int)) = ((9223372036854775807 - (b.toNat - 48) : Nat) : Int) := by rw [u64_of (by omega) (by omega)]; omega
    have c8 : bWrap .u64 (((9223372036854775807 - (b.toNat - 48) : Nat) : Int).tdiv 10) = (((9223372036854775807 - (b.toNat - 48)) / 10 : Nat) : Int) := by
      have e : ((9223372036854775807 - (b.toNat - 48) : Nat) : Int).tdiv 10 = (((9223372036854775807 - (b.toNat - 48)) / 10 : Nat) : Int) := rfl
      rw [e]
      exact u64_of (by omega) (by omega)
    have hrow := rowN_take hb
    have hmono := rowN_mono l (i + 1)
    by_cases hgt : (9223372036854775807 - (b.toNat - 48)) / 10 < rowN (l.take i)
    · have d1 : decide ((((9223372036854775807 - (b.toNat - 48)) / 10 : Nat) : Int) < (rowN (l.take i) : Int)) = true := decide_eq_true (by omega)
      have e : numP l = none := if_pos (by omega)
      rw [e] at hF
      cases hF
      simp (decide := true) (maxDischargeDepth := 200) only [go_sem, c1, c2, c3, c4, c5, c6, c7, c8, d1, Tryz.results94]
    · have d1 : decide ((((9223372036854775807 - (b.toNat - 48)) / 10 : Nat) : Int) < (rowN (l.take i) : Int)) = false := decide_eq_false (by omega)
      have hle : rowN (l.take (i + 1)) ≤ 9223372036854775807 := by rw [hrow]; omega
      have c9 : bWrap .u64 (10 * (rowN (l.take i) : Int)) = ((10 * rowN (l.take i) : Nat) : Int) := by rw [u64_of (by omega) (by omega)]; omega
      have c10 : bWrap .u64 (((10 * rowN (l.take i) : Nat) : Int) + ((b.toNat - 48 : Nat) : Int)) = (rowN (l.take (i + 1)) : Int) := by rw [u64_of (by omega) (by omega), hrow]; omega
      have c11 := count_up (i := i) (by omega)
      simp (decide := true) (maxDischargeDepth := 200) only [go_sem, c1, c2, c3, c4, c5, c6, c7, c8, c9, c10, c11, d1, Tryz.results94]
      refine ⟨⟨i + 1, by omega, hle⟩, ?_, ?_, by simp only; omega⟩ <;> simp (decide := true) only [go_sem]
  · have c1 : decide ((i : Int) < ((B l).size : Int)) = false := decide_eq_false (by rw [B_size]; omega)
    have ht : l.take i = l := List.take_of_length_le (by omega)
    rw [ht] at hr
    have e : numP l = some (rowN l) := if_neg (by omega)
    rw [e] at hF
    cases hF
    have c2 : bWrap .i64 (rowN l : Int) = (rowN l : Int) := i64_of (by omega) (by omega)
    simp (decide := true) (maxDischargeDepth := 200) only [go_sem, c1, ht, c2, Tryz.results94]

def FInt : List V → Option V
  | [.x (.int .i64 n)] => some (.agg [.x (.int .i64 1), .x (.int .i64 n), .x (.string ⟨#[]⟩)])
  | _ => none
set_option maxRecDepth 100000 in
theorem int_fun : FunV 95 FInt := by
  refine fun_of_run (E := envOf []) (k := 1) (envOK_of _ trivial) (by kernel_rfl) Tryz.func95 rfl (fun a w => Tryz.call95 a w) Tryz.ntmps95 (by kernel_rfl) (by decide) (by decide) ?_
  intro us r hF hdat
  unfold FInt at hF
  split at hF
  case h_2 => cases hF
  rename_i n
  cases hF
  refine ⟨rfl, ?_⟩
  simp (decide := true) (maxDischargeDepth := 200) only [go_sem, Tryz.results95]

def FTruth : List V → Option V
  | [.x (.bool b)] => some (.agg [.x (.int .i64 3), .x (.int .i64 (if b then 1 else 0)), .x (.string ⟨#[]⟩)])
  | _ => none
set_option maxRecDepth 100000 in
theorem truth_fun : FunV 111 FTruth := by
  refine fun_of_run (E := envOf []) (k := 1) (envOK_of _ trivial) (by kernel_rfl) Tryz.func111 rfl (fun a w => Tryz.call111 a w) Tryz.ntmps111 (by kernel_rfl) (by decide) (by decide) ?_
  intro us r hF hdat
  unfold FTruth at hF
  split at hF
  case h_2 => cases hF
  rename_i b
  cases hF
  refine ⟨rfl, ?_⟩
  cases b
  · simp (decide := true) (maxDischargeDepth := 200) only [go_sem, Tryz.results111]
  · simp (decide := true) (maxDischargeDepth := 200) only [go_sem, Tryz.results111]

abbrev rowS (l : List ByteArray) : V := .sl false 1 (l.map fun s => V.x (.string s)) none
def FRanks : List V → Option V
  | [] => some (.sl false 1 [rowS (ranksP 0), rowS (ranksP 1), rowS (ranksP 2), rowS (ranksP 3)] none)
  | _ => none
set_option maxRecDepth 100000 in
theorem ranks_fun : FunV 57 FRanks := by
  refine fun_of_run (E := envOf []) (k := 0) (envOK_of _ trivial) (by kernel_rfl) Tryz.func57 rfl (fun a w => Tryz.call57 a w) Tryz.ntmps57 (by kernel_rfl) (by decide) (by decide) ?_
  intro us r hF hdat
  unfold FRanks at hF
  split at hF
  case h_2 => cases hF
  cases hF
  refine ⟨rfl, ?_⟩
  simp (decide := true) (maxDischargeDepth := 200) only [go_sem, rowS, ranksP, Tryz.results57]

end Go.Proofs.YteibnmlfipkmeaaGreatDoor

/- The project's reader calls itself: what it does, let call itself so deep. -/
namespace Go.Proofs.YteibnmlfipkmeaaGreatDoor
open Go Go.RowKit
set_option linter.unusedSimpArgs false
/-- A node, laid out. -/
theorem nd_is (a : Nd) : ∃ (k : Int) (op nm : ByteArray) (vk vn : Int) (vs cs : ByteArray) (cc cr : Int) (ts : ByteArray) (tc tr : Int) (nl : Bool) (sz : Nat) (es : List V),
    nodeV a = .agg [.x (.int .i64 k), .x (.string op), .x (.string nm), .x (.int .i64 vk), .x (.int .i64 vn), .x (.string vs), .x (.string cs), .x (.int .i64 cc), .x (.int .i64 cr), .x (.string ts), .x (.int .i64 tc), .x (.int .i64 tr), .sl nl sz es none] := by
  obtain ⟨nl, sz, h, _⟩ := node_form a
  exact ⟨_, _, _, _, _, _, _, _, _, _, _, _, nl, sz, _, h⟩
/-- A node without kids, laid out. -/
theorem nodeV_leaf (h : Hd) : nodeV (.leaf h) = .agg [.x (.int .i64 h.k), .x (.string h.op), .x (.string h.nm), .x (.int .i64 h.vk), .x (.int .i64 h.vn), .x (.string h.vs), .x (.string h.cs), .x (.int .i64 h.cc), .x (.int .i64 h.cr), .x (.string h.ts), .x (.int .i64 h.tc), .x (.int .i64 h.tr), .sl true 0 [] none] := by rw [nodeV]; rfl
theorem nodeV_mk (h : Hd) (l : List Nd) : nodeV (.mk h l) = .agg [.x (.int .i64 h.k), .x (.string h.op), .x (.string h.nm), .x (.int .i64 h.vk), .x (.int .i64 h.vn), .x (.string h.vs), .x (.string h.cs), .x (.int .i64 h.cc), .x (.int .i64 h.cr), .x (.string h.ts), .x (.int .i64 h.tc), .x (.int .i64 h.tr), .sl false 13 (l.map nodeV) none] := by rw [nodeV, nodesV_map]; rfl
theorem inj3 {α β γ : Type} {a a' : α} {b b' : β} {c c' : γ} (h : some (a, b, c) = some (a', b', c')) : a = a' ∧ b = b' ∧ c = c' := by cases h; exact ⟨rfl, rfl, rfl⟩
/-- What is told, let call itself n deep. -/
def GW (n : Nat) (w : W) (p : Rq) : Option (V × List (List V)) := match pF p.sh p.en n w p.l with
  | none => none
  | some q => some (.tup [nodeV q.1, .x (.int .i64 q.2.1)], [rqL p.sh p.nl q.2.2 p.en])
theorem gw_eq {sh : ByteArray} {nl : Bool} {l : List Tk} {en : Nat} {n : Nat} {w : W} {a : Nd} {x : Int} {l' : List Tk} (h : pF sh en n w l = some (a, x, l')) : FE encQ (GW n w) [.bx (rqL sh nl l en)] = some (.tup [nodeV a, .x (.int .i64 x)], [rqL sh nl l' en]) := by
  refine (FE_at encQ_inj _ ⟨sh, nl, l, en⟩).trans ?_
  simp only [GW, h]
theorem gw_out {sh : ByteArray} {nl : Bool} {l : List Tk} {en : Nat} {n : Nat} {w : W} {r : V} {outs : List (List V)} (h : GW n w ⟨sh, nl, l, en⟩ = some (r, outs)) : ∃ a x l', pF sh en n w l = some (a, x, l') ∧ r = .tup [nodeV a, .x (.int .i64 x)] ∧ outs = [rqL sh nl l' en] := by
  simp only [GW] at h
  cases hp : pF sh en n w l with
  | none => rw [hp] at h; cases h
  | some q => rw [hp] at h; cases h; exact ⟨_, _, _, rfl, rfl, rfl⟩
def encQR (p : Rq × Nat) : List V := [.bx (rqV p.1), .x (.int .i64 (p.2 : Int))]
theorem encQR_inj (p q : Rq × Nat) (e : encQR p = encQR q) : p = q := by
  obtain ⟨p1, p2⟩ := p
  obtain ⟨q1, q2⟩ := q
  simp only [encQR, List.cons.injEq, V.bx.injEq, V.x.injEq, Value.int.injEq, true_and, and_true] at e
  obtain rfl : p2 = q2 := by omega
  rw [rqV_inj _ _ e.1]
def GPairs (n : Nat) (p : Rq × Nat) : Option (V × List (List V)) := if p.2 ≤ 5 then GW n (.pairs p.2) p.1 else none
theorem gp_eq {sh : ByteArray} {nl : Bool} {l : List Tk} {en : Nat} {n r : Nat} {a : Nd} {x : Int} {l' : List Tk} (hr : r ≤ 5) (h : pF sh en n (.pairs r) l = some (a, x, l')) : FE encQR (GPairs n) [.bx (rqL sh nl l en), .x (.int .i64 (r : Int))] = some (.tup [nodeV a, .x (.int .i64 x)], [rqL sh nl l' en]) := by
  refine (FE_at encQR_inj _ (⟨sh, nl, l, en⟩, r)).trans ?_
  simp only [GPairs]
  rw [if_pos hr]
  simp only [GW, h]
set_option maxRecDepth 100000 in
theorem formula_step (n : Nat) (hp : FunPV 76 (FE encQR (GPairs n))) : FunPV 51 (FE encQ (GW (n + 1) .formula)) := by
  refine fun_of_runP (E := envP [] (fun _ => false) [(76, (FE encQR (GPairs n)))]) (k := 1) (envOK_P _ _ _ trivial ⟨hp, trivial⟩) (fun _ _ => rfl) (by kernel_rfl) Tryz.func51 rfl (fun a w => Tryz.call51 a w) Tryz.ntmps51 (by kernel_rfl) (by decide) (by decide) ?_
  intro us r outs hF
  obtain ⟨⟨sh, nl, l, en⟩, hus, hG⟩ := FE_out hF
  clear hF
  subst hus
  have hF := hG
  clear hG
  obtain ⟨a, x, l', hres, rfl, rfl⟩ := gw_out hF
  clear hF
  simp only [encQ, rqV]
  refine ⟨rfl, ?_⟩
  have hs : stepP sh en n (pF sh en n) .formula l = some (a, x, l') := hres
  clear hres
  have e1 := gp_eq (nl := nl) (r := 1) (by decide) hs
  have e1 : FE encQR (GPairs n) [.bx (rqL sh nl l en), .x (.int .i64 1)] = _ := e1
  obtain ⟨ka, opa, nma, vka, vna, vsa, csa, cca, cra, tsa, tca, tra, nla, sza, esa, ha⟩ := nd_is a
  simp (decide := true) (maxDischargeDepth := 200) only [go_sem, e1, ha, Tryz.results51]

set_option maxRecDepth 100000 in
theorem unary_step (n : Nat) (hu : FunPV 90 (FE encQ (GW n .unary))) (hv : FunPV 107 (FE encQ (GW n .single))) : FunPV 90 (FE encQ (GW (n + 1) .unary)) := by
  refine fun_of_runP (E := envP [] (fun _ => false) [(90, (FE encQ (GW n .unary))), (107, (FE encQ (GW n .single))), (92, (FE encQ GSign)), (93, (FE encQ GTake))]) (k := 1) (envOK_P _ _ _ trivial ⟨hu, hv, sign_fun, take_fun, trivial⟩) (fun _ _ => rfl) (by kernel_rfl) Tryz.func90 rfl (fun a w => Tryz.call90 a w) Tryz.ntmps90 (by kernel_rfl) (by decide) (by decide) ?_
  intro us r outs hF
  obtain ⟨⟨sh, nl, l, en⟩, hus, hG⟩ := FE_out hF
  clear hF
  subst hus
  have hF := hG
  clear hG
  obtain ⟨a, x, l', hres, rfl, rfl⟩ := gw_out hF
  clear hF
  simp only [encQ, rqV]
  refine ⟨rfl, ?_⟩
  have hs : stepP sh en n (pF sh en n) .unary l = some (a, x, l') := hres
  clear hres
  simp only [stepP] at hs
  by_cases hsg : sgn l = ⟨#[45]⟩
  · rw [if_pos hsg] at hs
    have c1 : decide (sgn l = ⟨#[45]⟩) = true := decide_eq_true hsg
    cases l with
    | nil => cases hs
    | cons t l =>
      obtain ⟨k, i, q⟩ := t
      simp only at hs
      split at hs
      case h_2 => cases hs
      rename_i b y l2 hb
      cases hs
      have e1 := gw_eq (nl := nl) hb
      obtain ⟨kb, opb, nmb, vkb, vnb, vsb, csb, ccb, crb, tsb, tcb, trb, nlb, szb, esb, hb'⟩ := nd_is b
      simp (decide := true) (maxDischargeDepth := 200) only [go_sem, e1, hb', sign_eq, take_eq, c1, nodeV_mk, Tryz.results90]
  · rw [if_neg hsg] at hs
    have c1 : decide (sgn l = ⟨#[45]⟩) = false := decide_eq_false hsg
    have e1 := gw_eq (nl := nl) hs
    obtain ⟨ka, opa, nma, vka, vna, vsa, csa, cca, cra, tsa, tca, tra, nla, sza, esa, ha⟩ := nd_is a
    simp (decide := true) (maxDischargeDepth := 200) only [go_sem, e1, ha, sign_eq, c1, Tryz.results90]

set_option maxRecDepth 100000 in
theorem inner_step (n : Nat) (hf : FunPV 51 (FE encQ (GW n .formula))) : FunPV 130 (FE encQ (GW (n + 1) .inner)) := by
  refine fun_of_runP (E := envB [] (fun _ => false) [(51, (FE encQ (GW n .formula))), (143, (FE encQS GSkip)), (93, (FE encQ GTake))] (fun _ => false) (fun i => i == 5)) (k := 1) (envOK_B _ _ _ _ _ trivial ⟨hf, skip_fun, take_fun, trivial⟩) (fun _ _ => rfl) (by kernel_rfl) Tryz.func130 rfl (fun a w => Tryz.call130 a w) Tryz.ntmps130 (by kernel_rfl) (by decide) (by decide) ?_
  intro us r outs hF
  obtain ⟨⟨sh, nl, l, en⟩, hus, hG⟩ := FE_out hF
  clear hF
  subst hus
  have hF := hG
  clear hG
  obtain ⟨a, x, l', hres, rfl, rfl⟩ := gw_out hF
  clear hF
  simp only [encQ, rqV]
  refine ⟨rfl, ?_⟩
  have hs : stepP sh en n (pF sh en n) .inner l = some (a, x, l') := hres
  clear hres
  cases l with
  | nil => cases hs
  | cons t l =>
    obtain ⟨k, i, q⟩ := t
    simp only [stepP] at hs
    split at hs
    case h_2 => cases hs
    rename_i b y l2 hb
    have e1 := gw_eq (nl := nl) hb
    by_cases hy : y = -1
    · subst hy
      rw [if_pos rfl] at hs
      split at hs
      case h_2 => cases hs
      rename_i z l3 hz
      obtain ⟨rfl, rfl, rfl⟩ := inj3 hs
      have e2 := skip_eq sh nl l2 en hz
      obtain ⟨kb, opb, nmb, vkb, vnb, vsb, csb, ccb, crb, tsb, tcb, trb, nlb, szb, esb, hb'⟩ := nd_is b
      simp (decide := true) (maxDischargeDepth := 200) only [go_sem, e1, hb', take_eq, Tryz.results130]
      refine any_of [(0, .ptr 1000 0), (2, .ptr 2 0), (3, .x (.int .i64 z))] [(1000, rqL sh nl l3 en), (2, (nodeV b).cells)] (.alt 0 (.alt 1 (.alt 2 (.alt 3 (.alt 4 .fin .none) .none) .none) .none) (.alt 1 (.alt 0 (.alt 2 (.alt 3 (.alt 4 .fin .none) .none) .none) (.alt 2 (.alt 0 (.alt 3 (.alt 4 .fin .none) .none) .none) .none)) .none)) (by decide) ?_ ?_
      · simp (decide := true) (maxDischargeDepth := 200) only [go_sem, e2, hb', Tryz.results130]
      · simp (decide := true) (maxDischargeDepth := 200) only [go_sem, hb', Tryz.results130]
    · rw [if_neg hy] at hs
      obtain ⟨rfl, rfl, rfl⟩ := inj3 hs
      have c1 : decide (y = -1) = false := decide_eq_false hy
      obtain ⟨kb, opb, nmb, vkb, vnb, vsb, csb, ccb, crb, tsb, tcb, trb, nlb, szb, esb, hb'⟩ := nd_is b
      simp (decide := true) (maxDischargeDepth := 200) only [go_sem, e1, hb', take_eq, c1, Tryz.results130]

end Go.Proofs.YteibnmlfipkmeaaGreatDoor

/- The project's reader: pairs. -/
namespace Go.Proofs.YteibnmlfipkmeaaGreatDoor
open Go Go.RowKit
set_option linter.unusedSimpArgs false
set_option maxRecDepth 100000 in
theorem pairs_step (n : Nat) (hp : FunPV 76 (FE encQR (GPairs n))) (hu : FunPV 90 (FE encQ (GW n .unary))) : FunPV 76 (FE encQR (GPairs (n + 1))) := by
  refine fun_of_runP (E := envP [(91, FRank)] (fun _ => false) [(76, (FE encQR (GPairs n))), (90, (FE encQ (GW n .unary))), (92, (FE encQ GSign)), (93, (FE encQ GTake))]) (k := 2) (envOK_P _ _ _ ⟨rank_fun, trivial⟩ ⟨hp, hu, sign_fun, take_fun, trivial⟩) (fun _ _ => rfl) (by kernel_rfl) Tryz.func76 rfl (fun a w => Tryz.call76 a w) Tryz.ntmps76 (by kernel_rfl) (by decide) (by decide) ?_
  intro us r outs hF
  obtain ⟨⟨⟨sh, nl, l, en⟩, r⟩, hus, hG⟩ := FE_out hF
  clear hF
  subst hus
  have hF := hG
  clear hG
  obtain ⟨hr5, hF⟩ := ite_some hF
  obtain ⟨a, x, l', hres, rfl, rfl⟩ := gw_out hF
  clear hF
  simp only [encQR, rqV]
  refine ⟨rfl, ?_⟩
  have hs : stepP sh en n (pF sh en n) (.pairs r) l = some (a, x, l') := hres
  clear hres
  simp only [stepP] at hs
  by_cases h4 : 4 < r
  · rw [if_pos h4] at hs
    have c1 : decide ((4 : Int) < (r : Int)) = true := decide_eq_true (by omega)
    have e1 := gw_eq (nl := nl) hs
    obtain ⟨ka, opa, nma, vka, vna, vsa, csa, cca, cra, tsa, tca, tra, nla, sza, esa, ha⟩ := nd_is a
    simp (decide := true) (maxDischargeDepth := 200) only [go_sem, e1, ha, c1, Tryz.results76]
  · rw [if_neg h4] at hs
    have c1 : decide ((4 : Int) < (r : Int)) = false := decide_eq_false (by omega)
    by_cases h0 : r = 0
    · rw [if_pos h0] at hs; cases hs
    · rw [if_neg h0] at hs
      split at hs
      case h_2 => cases hs
      rename_i b y l1 hb
      have c2 := count_up (i := r) (by omega)
      have e1 := gp_eq (nl := nl) (show r + 1 ≤ 5 by omega) hb
      obtain ⟨kb, opb, nmb, vkb, vnb, vsb, csb, ccb, crb, tsb, tcb, trb, nlb, szb, esb, hb'⟩ := nd_is b
      simp (decide := true) (maxDischargeDepth := 200) only [go_sem, e1, hb', c1, c2, Tryz.results76]
      refine loop_of (X := {p : Nat × Nd × Int × List Tk // loopP (pF sh en n (.pairs (r + 1))) r p.1 p.2.1 p.2.2.1 p.2.2.2 = some (a, x, l')})
        (fun p => [(0, .ptr 1000 0), (1, .x (.int .i64 (r : Int))), (4, .ptr 4 0), (6, .ptr 6 0), (7, .x (.int .i64 p.1.2.2.1))])
        (fun p => [(1000, rqL sh nl p.1.2.2.2 en), (4, [.x (.int .i64 0), .x (.string ⟨#[]⟩), .x (.string ⟨#[]⟩), .x (.int .i64 0), .x (.int .i64 0), .x (.string ⟨#[]⟩), .x (.string ⟨#[]⟩), .x (.int .i64 0), .x (.int .i64 0), .x (.string ⟨#[]⟩), .x (.int .i64 0), .x (.int .i64 0), .sl true 0 [] none]), (6, (nodeV p.1.2.1).cells)])
        (fun p => p.1.1) ⟨(n, b, y, l1), hs⟩ (by simp (decide := true) only [go_sem, hb'] <;> (repeat' first | rfl | constructor)) (by simp (decide := true) only [go_sem, hb'] <;> (repeat' first | rfl | constructor)) (fun ⟨⟨k, d, z, q⟩, hk0⟩ => ?_)
      clear hs hb e1 hb' kb opb nmb vkb vnb vsb csb ccb crb tsb tcb trb nlb szb esb
      have hk : loopP (pF sh en n (.pairs (r + 1))) r k d z q = some (a, x, l') := hk0
      obtain ⟨kd, opd, nmd, vkd, vnd, vsd, csd, ccd, crd, tsd, tcd, trd, nld, szd, esd, hd⟩ := nd_is d
      cases k with
      | zero => cases hk
      | succ k =>
        simp only [loopP] at hk
        by_cases hc : z = -1 ∧ rankP (sgn q) = r
        · rw [if_pos hc] at hk
          obtain ⟨rfl, hrk⟩ := hc
          have c3 : decide ((rankP (sgn q) : Int) = (r : Int)) = true := decide_eq_true (by omega)
          cases q with
          | nil => cases hk
          | cons t q =>
            obtain ⟨k5, i5, s5⟩ := t
            simp only at hk
            split at hk
            case h_2 => cases hk
            rename_i f g l2 hf
            have e2 := gp_eq (nl := nl) (show r + 1 ≤ 5 by omega) hf
            obtain ⟨kf, opf, nmf, vkf, vnf, vsf, csf, ccf, crf, tsf, tcf, trf, nlf, szf, esf, hf'⟩ := nd_is f
            simp (decide := true) (maxDischargeDepth := 200) only [go_sem, e2, hd, hf', c2, c3, sign_eq, take_eq, FRank, nodeV_mk, Tryz.results76]
            refine ⟨⟨(k, pairNd (B s5) d f, g, l2), hk⟩, ?_, ?_, by simp only; omega⟩ <;> simp (decide := true) only [go_sem, hd, hf', nodeV_mk]
        · rw [if_neg hc] at hk
          obtain ⟨rfl, rfl, rfl⟩ := inj3 hk
          by_cases hz : z = -1
          · subst hz
            have c3 : decide ((rankP (sgn q) : Int) = (r : Int)) = false := decide_eq_false (fun h => hc ⟨rfl, by omega⟩)
            simp (decide := true) (maxDischargeDepth := 200) only [go_sem, hd, c3, sign_eq, FRank, Tryz.results76]
          · have c3 : decide (z = -1) = false := decide_eq_false hz
            simp (decide := true) (maxDischargeDepth := 200) only [go_sem, hd, c3, Tryz.results76]

end Go.Proofs.YteibnmlfipkmeaaGreatDoor

/- The project's reader: references, values, words. -/
namespace Go.Proofs.YteibnmlfipkmeaaGreatDoor
open Go Go.RowKit
set_option linter.unusedSimpArgs false
def GRefQ (p : Rq) : Option (V × List (List V)) := match refP p.sh p.l with
  | none => none
  | some q => some (.tup [nodeV q.1, .x (.int .i64 q.2.1)], [rqL p.sh p.nl q.2.2 p.en])
theorem ref_eq {sh : ByteArray} {nl : Bool} {l : List Tk} {en : Nat} {a : Nd} {x : Int} {l' : List Tk} (h : refP sh l = some (a, x, l')) : FE encQ GRefQ [.bx (rqL sh nl l en)] = some (.tup [nodeV a, .x (.int .i64 x)], [rqL sh nl l' en]) := by
  refine (FE_at encQ_inj _ ⟨sh, nl, l, en⟩).trans ?_
  simp only [GRefQ, h]
theorem ref_out {sh : ByteArray} {nl : Bool} {l : List Tk} {en : Nat} {r : V} {outs : List (List V)} (h : GRefQ ⟨sh, nl, l, en⟩ = some (r, outs)) : ∃ a x l', refP sh l = some (a, x, l') ∧ r = .tup [nodeV a, .x (.int .i64 x)] ∧ outs = [rqL sh nl l' en] := by
  simp only [GRefQ] at h
  cases hp : refP sh l with
  | none => rw [hp] at h; cases h
  | some q => rw [hp] at h; cases h; exact ⟨_, _, _, rfl, rfl, rfl⟩
theorem atP_nn (en : Nat) (l : List Tk) : decide (atP (en : Int) l = -1) = false := by
  cases l with
  | nil => exact decide_eq_false (by simp only [atP]; omega)
  | cons t l => exact decide_eq_false (by simp only [atP]; omega)
theorem sgn_cons {l : List Tk} {s : ByteArray} (h : sgn l = s) (h0 : s ≠ ⟨#[]⟩) : ∃ i q l', l = (5, i, q) :: l' := by
  cases l with
  | nil => exact absurd h.symm h0
  | cons t l =>
    obtain ⟨k, i, q⟩ := t
    simp only [sgn] at h
    by_cases hk : k = 5
    · subst hk; exact ⟨i, q, l, rfl⟩
    · rw [if_neg hk] at h; exact absurd h.symm h0
theorem ne_empty (b : UInt8) (l : List UInt8) : (⟨⟨b :: l⟩⟩ : ByteArray) ≠ ⟨#[]⟩ := by
  intro h
  have := congrArg (fun s : ByteArray => s.data.toList) h
  cases this
set_option maxHeartbeats 4000000 in
set_option maxRecDepth 100000 in
theorem ref_fun : FunPV 129 (FE encQ GRefQ) := by
  refine fun_of_runP (E := envB [(79, FRange)] (fun _ => false) [(52, (FE encQ GAtP)), (92, (FE encQ GSign)), (93, (FE encQ GTake)), (143, (FE encQS GSkip)), (144, (FE encQS GCell))] (fun _ => false) (fun i => i == 1)) (k := 1) (envOK_B _ _ _ _ _ ⟨range_fun, trivial⟩ ⟨atp_fun, sign_fun, take_fun, skip_fun, cell_fun, trivial⟩) (fun _ _ => rfl) (by kernel_rfl) Tryz.func129 rfl (fun a w => Tryz.call129 a w) Tryz.ntmps129 (by kernel_rfl) (by decide) (by decide) ?_
  intro us r outs hF
  obtain ⟨⟨sh, nl, l, en⟩, hus, hG⟩ := FE_out hF
  clear hF
  subst hus
  have hF := hG
  clear hG
  obtain ⟨a, x, l', hs, rfl, rfl⟩ := ref_out hF
  clear hF
  simp only [encQ, rqV]
  refine ⟨rfl, ?_⟩
  cases l with
  | nil => cases hs
  | cons t l =>
    obtain ⟨k, i, q⟩ := t
    simp (decide := true) (maxDischargeDepth := 200) only [go_sem, Tryz.results129]
    refine any_of [(0, .ptr 1000 0), (2, .ptr 2 0), (4, .x (.int .i64 (i : Int))), (5, .x (.string sh))] [(1000, rqL sh nl ((k, i, q) :: l) en), (2, [.x (.int .i64 0), .x (.string ⟨#[]⟩), .x (.string ⟨#[]⟩), .x (.int .i64 0), .x (.int .i64 0), .x (.string ⟨#[]⟩), .x (.string ⟨#[]⟩), .x (.int .i64 0), .x (.int .i64 0), .x (.string ⟨#[]⟩), .x (.int .i64 0), .x (.int .i64 0), .sl true 0 [] none])] (.alt 0 (.alt 1 (.alt 2 (.alt 3 (.alt 4 (.alt 5 (.alt 6 (.alt 7 .fin .none) .none) (.alt 6 (.alt 5 (.alt 7 .fin .none) .none) .none)) (.alt 6 (.alt 4 (.alt 5 (.alt 7 .fin .none) .none) .none) .none)) (.alt 6 (.alt 3 (.alt 4 (.alt 5 (.alt 7 .fin .none) .none) .none) .none) .none)) (.alt 6 (.alt 2 (.alt 3 (.alt 4 (.alt 5 (.alt 7 .fin .none) .none) .none) .none) .none) .none)) (.alt 2 (.alt 1 (.alt 3 (.alt 4 (.alt 5 (.alt 6 (.alt 7 .fin .none) .none) (.alt 6 (.alt 5 (.alt 7 .fin .none) .none) .none)) (.alt 6 (.alt 4 (.alt 5 (.alt 7 .fin .none) .none) .none) .none)) (.alt 6 (.alt 3 (.alt 4 (.alt 5 (.alt 7 .fin .none) .none) .none) .none) .none)) (.alt 3 (.alt 1 (.alt 4 (.alt 5 (.alt 6 (.alt 7 .fin .none) .none) (.alt 6 (.alt 5 (.alt 7 .fin .none) .none) .none)) (.alt 6 (.alt 4 (.alt 5 (.alt 7 .fin .none) .none) .none) .none)) (.alt 4 (.alt 1 (.alt 5 (.alt 6 (.alt 7 .fin .none) .none) (.alt 6 (.alt 5 (.alt 7 .fin .none) .none) .none)) (.alt 5 (.alt 1 (.alt 6 (.alt 7 .fin .none) .none) .none) .none)) .none)) .none)) .none)) (.alt 2 (.alt 0 (.alt 1 (.alt 3 (.alt 4 (.alt 5 (.alt 6 (.alt 7 .fin .none) .none) (.alt 6 (.alt 5 (.alt 7 .fin .none) .none) .none)) (.alt 6 (.alt 4 (.alt 5 (.alt 7 .fin .none) .none) .none) .none)) (.alt 6 (.alt 3 (.alt 4 (.alt 5 (.alt 7 .fin .none) .none) .none) .none) .none)) (.alt 3 (.alt 1 (.alt 4 (.alt 5 (.alt 6 (.alt 7 .fin .none) .none) (.alt 6 (.alt 5 (.alt 7 .fin .none) .none) .none)) (.alt 6 (.alt 4 (.alt 5 (.alt 7 .fin .none) .none) .none) .none)) (.alt 4 (.alt 1 (.alt 5 (.alt 6 (.alt 7 .fin .none) .none) (.alt 6 (.alt 5 (.alt 7 .fin .none) .none) .none)) (.alt 5 (.alt 1 (.alt 6 (.alt 7 .fin .none) .none) .none) .none)) .none)) .none)) (.alt 3 (.alt 0 (.alt 1 (.alt 4 (.alt 5 (.alt 6 (.alt 7 .fin .none) .none) (.alt 6 (.alt 5 (.alt 7 .fin .none) .none) .none)) (.alt 6 (.alt 4 (.alt 5 (.alt 7 .fin .none) .none) .none) .none)) (.alt 4 (.alt 1 (.alt 5 (.alt 6 (.alt 7 .fin .none) .none) (.alt 6 (.alt 5 (.alt 7 .fin .none) .none) .none)) (.alt 5 (.alt 1 (.alt 6 (.alt 7 .fin .none) .none) .none) .none)) .none)) (.alt 4 (.alt 0 (.alt 1 (.alt 5 (.alt 6 (.alt 7 .fin .none) .none) (.alt 6 (.alt 5 (.alt 7 .fin .none) .none) .none)) (.alt 5 (.alt 1 (.alt 6 (.alt 7 .fin .none) .none) .none) .none)) (.alt 5 (.alt 0 (.alt 1 (.alt 6 (.alt 7 .fin .none) .none) .none) .none) .none)) .none)) .none)) .none)) (by decide) ?_ ?_
    · have e0 : atP (en : Int) ((k, i, q) :: l) = (i : Int) := rfl
      simp (decide := true) (maxDischargeDepth := 200) only [go_sem, atP_eq, e0, Tryz.results129]
    · simp only [refP] at hs
      by_cases hk : k = 4
      · subst hk
        rw [if_pos rfl] at hs
        have f1 : decide (((4 : Nat) : Int) = 4) = true := rfl
        by_cases h33 : sgn l = ⟨#[33]⟩
        · rw [if_pos h33] at hs
          obtain ⟨i8, q8, l0, rfl⟩ := sgn_cons h33 (ne_empty _ _)
          have hsk : skipP (en : Int) ⟨#[33]⟩ ((5, i8, q8) :: l0) = some (-1, l0) := by simp only [skipP, h33, if_true]
          have f2 := skip_eq sh nl _ en hsk
          simp only [List.tail_cons] at hs
          simp only [ref2P] at hs
          split at hs
          · cases hs
          · rename_i l1 hc
            obtain ⟨rfl, rfl, rfl⟩ := inj3 hs
            have e1 := cell_eq sh nl l0 en hc
            have e2 : ansV none = .tup [cl ⟨#[]⟩ 0 0, .x (.bool false)] := rfl
            simp (decide := true) (maxDischargeDepth := 200) only [go_sem, tks_0, take_eq, f1, f2, e1, e2, cl, nodeV_leaf, Tryz.results129]
          · rename_i c l1 hc
            obtain ⟨c1, c2, c3⟩ := c
            have e1 := cell_eq sh nl l0 en hc
            have e2 : ansV (some (c1, c2, c3)) = .tup [cl c1 c2 c3, .x (.bool true)] := rfl
            by_cases h58 : sgn l1 = ⟨#[58]⟩
            · rw [if_pos h58] at hs
              have g1 : decide (sgn l1 = ⟨#[58]⟩) = true := decide_eq_true h58
              obtain ⟨i9, q9, l2, rfl⟩ := sgn_cons h58 (ne_empty _ _)
              simp only [List.tail_cons] at hs
              split at hs
              · cases hs
              · rename_i l3 hd
                obtain ⟨rfl, rfl, rfl⟩ := inj3 hs
                have e3 := cell_eq sh nl l2 en hd
                have e4 : ansV none = .tup [cl ⟨#[]⟩ 0 0, .x (.bool false)] := rfl
                simp (decide := true) (maxDischargeDepth := 200) only [go_sem, tks_0, take_eq, f1, f2, e1, e2, e3, e4, g1, sign_eq, take_eq, cl, nodeV_leaf, Tryz.results129]
              · rename_i d l3 hd
                obtain ⟨d1, d2, d3⟩ := d
                have e3 := cell_eq sh nl l2 en hd
                have e4 : ansV (some (d1, d2, d3)) = .tup [cl d1 d2 d3, .x (.bool true)] := rfl
                cases hr : rangeB c1 c2 c3 d1 d2 d3 with
                | true =>
                  rw [hr, if_pos rfl] at hs
                  obtain ⟨rfl, rfl, rfl⟩ := inj3 hs
                  simp (decide := true) (maxDischargeDepth := 200) only [go_sem, tks_0, take_eq, f1, f2, e1, e2, e3, e4, g1, sign_eq, take_eq, cl, FRange, hr, nodeV_leaf, Tryz.results129]
                | false =>
                  rw [hr, if_neg (by decide)] at hs
                  obtain ⟨rfl, rfl, rfl⟩ := inj3 hs
                  simp (decide := true) (maxDischargeDepth := 200) only [go_sem, tks_0, take_eq, f1, f2, e1, e2, e3, e4, g1, sign_eq, take_eq, cl, FRange, hr, nodeV_leaf, Tryz.results129]
            · rw [if_neg h58] at hs
              obtain ⟨rfl, rfl, rfl⟩ := inj3 hs
              have g1 : decide (sgn l1 = ⟨#[58]⟩) = false := decide_eq_false h58
              simp (decide := true) (maxDischargeDepth := 200) only [go_sem, tks_0, take_eq, f1, f2, e1, e2, g1, sign_eq, cl, nodeV_leaf, Tryz.results129]
        · rw [if_neg h33] at hs
          obtain ⟨rfl, rfl, rfl⟩ := inj3 hs
          have hsk : skipP (en : Int) ⟨#[33]⟩ l = some (atP (en : Int) l, l) := by simp only [skipP, h33, if_false]
          have f2 := skip_eq sh nl _ en hsk
          have f3 := atP_nn en l
          simp (decide := true) (maxDischargeDepth := 200) only [go_sem, tks_0, take_eq, f1, f2, f3, nodeV_leaf, Tryz.results129]
      · rw [if_neg hk] at hs
        have f1 : decide ((k : Int) = 4) = false := decide_eq_false (by omega)
        simp only [ref2P] at hs
        split at hs
        · cases hs
        · rename_i l1 hc
          obtain ⟨rfl, rfl, rfl⟩ := inj3 hs
          have e1 := cell_eq sh nl ((k, i, q) :: l) en hc
          have e2 : ansV none = .tup [cl ⟨#[]⟩ 0 0, .x (.bool false)] := rfl
          simp (decide := true) (maxDischargeDepth := 200) only [go_sem, tks_0, f1, e1, e2, cl, nodeV_leaf, Tryz.results129]
        · rename_i c l1 hc
          obtain ⟨c1, c2, c3⟩ := c
          have e1 := cell_eq sh nl ((k, i, q) :: l) en hc
          have e2 : ansV (some (c1, c2, c3)) = .tup [cl c1 c2 c3, .x (.bool true)] := rfl
          by_cases h58 : sgn l1 = ⟨#[58]⟩
          · rw [if_pos h58] at hs
            have g1 : decide (sgn l1 = ⟨#[58]⟩) = true := decide_eq_true h58
            obtain ⟨i9, q9, l2, rfl⟩ := sgn_cons h58 (ne_empty _ _)
            simp only [List.tail_cons] at hs
            split at hs
            · cases hs
            · rename_i l3 hd
              obtain ⟨rfl, rfl, rfl⟩ := inj3 hs
              have e3 := cell_eq sh nl l2 en hd
              have e4 : ansV none = .tup [cl ⟨#[]⟩ 0 0, .x (.bool false)] := rfl
              simp (decide := true) (maxDischargeDepth := 200) only [go_sem, tks_0, f1, e1, e2, e3, e4, g1, sign_eq, take_eq, cl, nodeV_leaf, Tryz.results129]
            · rename_i d l3 hd
              obtain ⟨d1, d2, d3⟩ := d
              have e3 := cell_eq sh nl l2 en hd
              have e4 : ansV (some (d1, d2, d3)) = .tup [cl d1 d2 d3, .x (.bool true)] := rfl
              cases hr : rangeB c1 c2 c3 d1 d2 d3 with
              | true =>
                rw [hr, if_pos rfl] at hs
                obtain ⟨rfl, rfl, rfl⟩ := inj3 hs
                simp (decide := true) (maxDischargeDepth := 200) only [go_sem, tks_0, f1, e1, e2, e3, e4, g1, sign_eq, take_eq, cl, FRange, hr, nodeV_leaf, Tryz.results129]
              | false =>
                rw [hr, if_neg (by decide)] at hs
                obtain ⟨rfl, rfl, rfl⟩ := inj3 hs
                simp (decide := true) (maxDischargeDepth := 200) only [go_sem, tks_0, f1, e1, e2, e3, e4, g1, sign_eq, take_eq, cl, FRange, hr, nodeV_leaf, Tryz.results129]
          · rw [if_neg h58] at hs
            obtain ⟨rfl, rfl, rfl⟩ := inj3 hs
            have g1 : decide (sgn l1 = ⟨#[58]⟩) = false := decide_eq_false h58
            simp (decide := true) (maxDischargeDepth := 200) only [go_sem, tks_0, f1, e1, e2, g1, sign_eq, cl, nodeV_leaf, Tryz.results129]

def GNumQ (p : Rq) : Option (V × List (List V)) := match p.l with
  | [] => none
  | t :: l => if t.2.2.length ≤ 200 ∧ t.2.2 ≠ [] ∧ t.2.2.all dg = true then some (match numP t.2.2 with
      | some v => (.tup [nodeV (valNd 1 (v : Int) ⟨#[]⟩), .x (.int .i64 (-1))], [rqL p.sh p.nl l p.en])
      | none => (.tup [nodeV zNd, .x (.int .i64 (t.2.1 : Int))], [rqL p.sh p.nl l p.en])) else none
theorem num_eq (sh : ByteArray) (nl : Bool) (l : List Tk) (en k i : Nat) (q : List UInt8) (h : q.length ≤ 200 ∧ q ≠ [] ∧ q.all dg = true) : FE encQ GNumQ [.bx (rqL sh nl ((k, i, q) :: l) en)] = some (match numP q with
      | some v => (.tup [nodeV (valNd 1 (v : Int) ⟨#[]⟩), .x (.int .i64 (-1))], [rqL sh nl l en])
      | none => (.tup [nodeV zNd, .x (.int .i64 (i : Int))], [rqL sh nl l en])) := by
  refine (FE_at encQ_inj _ ⟨sh, nl, (k, i, q) :: l, en⟩).trans ?_
  exact if_pos h
set_option maxRecDepth 100000 in
theorem num_fun : FunPV 126 (FE encQ GNumQ) := by
  refine fun_of_runP (E := envP [(140, FPInt), (127, FVal)] (fun _ => false) [(93, (FE encQ GTake))]) (k := 1) (envOK_P _ _ _ ⟨pint_fun, val_fun, trivial⟩ ⟨take_fun, trivial⟩) (fun _ _ => rfl) (by kernel_rfl) Tryz.func126 rfl (fun a w => Tryz.call126 a w) Tryz.ntmps126 (by kernel_rfl) (by decide) (by decide) ?_
  intro us r outs hF
  obtain ⟨⟨sh, nl, l, en⟩, hus, hG⟩ := FE_out hF
  clear hF
  subst hus
  have hF := hG
  clear hG
  cases l with
  | nil => cases hF
  | cons t l =>
    obtain ⟨k, i, q⟩ := t
    obtain ⟨hq, hF⟩ := ite_some hF
    simp only [encQ, rqV]
    have e1 := FPInt_eq hq.1 hq.2
    cases hn : numP q with
    | some v =>
      rw [hn] at hF e1
      cases hF
      refine ⟨rfl, ?_⟩
      simp (decide := true) (maxDischargeDepth := 200) only [go_sem, take_eq, e1, FVal, nodeV_val, Tryz.results126]
    | none =>
      rw [hn] at hF e1
      cases hF
      refine ⟨rfl, ?_⟩
      simp (decide := true) (maxDischargeDepth := 200) only [go_sem, take_eq, e1, nodeV_leaf, Tryz.results126]

set_option maxHeartbeats 2000000 in
set_option maxRecDepth 100000 in
theorem word_step (n : Nat) (hc : FunPV 142 (FE encQ (GW n .call))) : FunPV 128 (FE encQ (GW (n + 1) .word)) := by
  refine fun_of_runP (E := envP [(127, FVal), (81, FCall)] (fun _ => false) [(142, (FE encQ (GW n .call))), (141, (FE encQ GBehind)), (93, (FE encQ GTake)), (129, (FE encQ GRefQ))]) (k := 1) (envOK_P _ _ _ ⟨val_fun, iscall_fun, trivial⟩ ⟨hc, behind_fun, take_fun, ref_fun, trivial⟩) (fun _ _ => rfl) (by kernel_rfl) Tryz.func128 rfl (fun a w => Tryz.call128 a w) Tryz.ntmps128 (by kernel_rfl) (by decide) (by decide) ?_
  intro us r outs hF
  obtain ⟨⟨sh, nl, l, en⟩, hus, hG⟩ := FE_out hF
  clear hF
  subst hus
  have hF := hG
  clear hG
  obtain ⟨a, x, l', hres, rfl, rfl⟩ := gw_out hF
  clear hF
  simp only [encQ, rqV]
  refine ⟨rfl, ?_⟩
  have hs : stepP sh en n (pF sh en n) .word l = some (a, x, l') := hres
  clear hres
  cases l with
  | nil => cases hs
  | cons t l =>
    obtain ⟨k, i, q⟩ := t
    simp only [stepP] at hs
    by_cases hT : B q = ⟨#[84, 82, 85, 69]⟩
    · rw [if_pos hT] at hs
      obtain ⟨rfl, rfl, rfl⟩ := inj3 hs
      have c1 : decide (B q = ⟨#[84, 82, 85, 69]⟩) = true := decide_eq_true hT
      simp (decide := true) (maxDischargeDepth := 200) only [go_sem, tks_0, take_eq, c1, FVal, nodeV_leaf, Tryz.results128]
    · rw [if_neg hT] at hs
      have c1 : decide (B q = ⟨#[84, 82, 85, 69]⟩) = false := decide_eq_false hT
      by_cases hFa : B q = ⟨#[70, 65, 76, 83, 69]⟩
      · rw [if_pos hFa] at hs
        obtain ⟨rfl, rfl, rfl⟩ := inj3 hs
        have c2 : decide (B q = ⟨#[70, 65, 76, 83, 69]⟩) = true := decide_eq_true hFa
        simp (decide := true) (maxDischargeDepth := 200) only [go_sem, tks_0, take_eq, c1, c2, FVal, nodeV_leaf, Tryz.results128]
      · rw [if_neg hFa] at hs
        have c2 : decide (B q = ⟨#[70, 65, 76, 83, 69]⟩) = false := decide_eq_false hFa
        by_cases h1 : sgn l = ⟨#[40]⟩ ∧ callB (B q) = true
        · rw [if_pos h1] at hs
          have c3 : decide (sgn l = ⟨#[40]⟩) = true := decide_eq_true h1.1
          have c4 := h1.2
          have e1 := gw_eq (nl := nl) hs
          obtain ⟨ka, opa, nma, vka, vna, vsa, csa, cca, cra, tsa, tca, tra, nla, sza, esa, ha'⟩ := nd_is a
          simp (decide := true) (maxDischargeDepth := 200) only [go_sem, tks_0, behind_eq, c1, c2, c3, c4, FCall, e1, ha', Tryz.results128]
        · rw [if_neg h1] at hs
          by_cases h2 : sgn l = ⟨#[33]⟩ ∧ B q = ⟨#[82, 69, 70]⟩
          · rw [if_pos h2] at hs
            have c3 : decide (sgn l = ⟨#[40]⟩) = false := decide_eq_false (by rw [h2.1]; decide)
            have c4 : decide (sgn l = ⟨#[33]⟩) = true := decide_eq_true h2.1
            have c5 : decide (B q = ⟨#[82, 69, 70]⟩) = true := decide_eq_true h2.2
            obtain ⟨i9, q9, l2, rfl⟩ := sgn_cons h2.1 (ne_empty _ _)
            simp only [List.tail_cons] at hs
            obtain ⟨rfl, rfl, rfl⟩ := inj3 hs
            simp (decide := true) (maxDischargeDepth := 200) only [go_sem, tks_0, behind_eq, take_eq, c1, c2, c3, c4, c5, nodeV_leaf, Tryz.results128]
          · rw [if_neg h2] at hs
            have e1 := ref_eq (nl := nl) (en := en) hs
            obtain ⟨ka, opa, nma, vka, vna, vsa, csa, cca, cra, tsa, tca, tra, nla, sza, esa, ha'⟩ := nd_is a
            by_cases h3 : sgn l = ⟨#[40]⟩
            · have c3 : decide (sgn l = ⟨#[40]⟩) = true := decide_eq_true h3
              have c4 : callB (B q) = false := by
                cases hb : callB (B q) with
                | false => rfl
                | true => exact absurd ⟨h3, hb⟩ h1
              have c5 : decide (sgn l = ⟨#[33]⟩) = false := decide_eq_false (by rw [h3]; decide)
              simp (decide := true) (maxDischargeDepth := 200) only [go_sem, tks_0, behind_eq, c1, c2, c3, c4, c5, FCall, e1, ha', Tryz.results128]
            · have c3 : decide (sgn l = ⟨#[40]⟩) = false := decide_eq_false h3
              by_cases h4 : sgn l = ⟨#[33]⟩
              · have c4 : decide (sgn l = ⟨#[33]⟩) = true := decide_eq_true h4
                have c5 : decide (B q = ⟨#[82, 69, 70]⟩) = false := decide_eq_false (fun h => h2 ⟨h4, h⟩)
                simp (decide := true) (maxDischargeDepth := 200) only [go_sem, tks_0, behind_eq, c1, c2, c3, c4, c5, e1, ha', Tryz.results128]
              · have c4 : decide (sgn l = ⟨#[33]⟩) = false := decide_eq_false h4
                simp (decide := true) (maxDischargeDepth := 200) only [go_sem, tks_0, behind_eq, c1, c2, c3, c4, e1, ha', Tryz.results128]

set_option maxHeartbeats 2000000 in
set_option maxRecDepth 100000 in
theorem single_step (n : Nat) (hw : FunPV 128 (FE encQ (GW n .word))) (hi : FunPV 130 (FE encQ (GW n .inner))) : FunPV 107 (FE encQ (GW (n + 1) .single)) := by
  refine fun_of_runP (E := envP [(127, FVal)] (fun _ => false) [(128, (FE encQ (GW n .word))), (130, (FE encQ (GW n .inner))), (126, (FE encQ GNumQ)), (129, (FE encQ GRefQ)), (92, (FE encQ GSign)), (52, (FE encQ GAtP)), (93, (FE encQ GTake))]) (k := 1) (envOK_P _ _ _ ⟨val_fun, trivial⟩ ⟨hw, hi, num_fun, ref_fun, sign_fun, atp_fun, take_fun, trivial⟩) (fun _ _ => rfl) (by kernel_rfl) Tryz.func107 rfl (fun a w => Tryz.call107 a w) Tryz.ntmps107 (by kernel_rfl) (by decide) (by decide) ?_
  intro us r outs hF
  obtain ⟨⟨sh, nl, l, en⟩, hus, hG⟩ := FE_out hF
  clear hF
  subst hus
  have hF := hG
  clear hG
  obtain ⟨a, x, l', hres, rfl, rfl⟩ := gw_out hF
  clear hF
  simp only [encQ, rqV]
  refine ⟨rfl, ?_⟩
  have hs : stepP sh en n (pF sh en n) .single l = some (a, x, l') := hres
  clear hres
  cases l with
  | nil =>
    obtain ⟨rfl, rfl, rfl⟩ := inj3 (show some (zNd, (en : Int), ([] : List Tk)) = some (a, x, l') from hs)
    simp (decide := true) (maxDischargeDepth := 200) only [go_sem, tks_nil, nodeV_leaf, Int.ofNat_zero, Int.natCast_zero, Tryz.results107]
  | cons t l =>
    obtain ⟨k, i, q⟩ := t
    simp only [stepP] at hs
    have c0 : decide (((l.length + 1 : Nat) : Int) = 0) = false := decide_eq_false (by omega)
    by_cases h1 : k = 1
    · subst h1
      rw [if_pos rfl] at hs
      obtain ⟨hq, hs⟩ := ite_some hs
      have hq2 : q.length ≤ 200 ∧ q ≠ [] ∧ q.all dg = true := ⟨hq.1, hq.2 rfl⟩
      have e1 := num_eq sh nl l en 1 i q hq2
      have c1 : decide (((1 : Nat) : Int) = 1) = true := rfl
      cases hn : numP q with
      | some v =>
        rw [hn] at e1 hs
        obtain ⟨rfl, rfl, rfl⟩ := inj3 (show some (valNd 1 (v : Int) ⟨#[]⟩, (-1 : Int), l) = some (a, x, l') from hs)
        simp (decide := true) (maxDischargeDepth := 200) only [go_sem, tks_len, tks_0, c0, c1, e1, nodeV_leaf, Tryz.results107]
      | none =>
        rw [hn] at e1 hs
        obtain ⟨rfl, rfl, rfl⟩ := inj3 (show some (zNd, (i : Int), l) = some (a, x, l') from hs)
        simp (decide := true) (maxDischargeDepth := 200) only [go_sem, tks_len, tks_0, c0, c1, e1, nodeV_leaf, Tryz.results107]
    · rw [if_neg h1] at hs
      have c1 : decide ((k : Int) = 1) = false := decide_eq_false (by omega)
      by_cases h2 : k = 2
      · subst h2
        rw [if_pos rfl] at hs
        obtain ⟨rfl, rfl, rfl⟩ := inj3 hs
        have c2 : decide (((2 : Nat) : Int) = 2) = true := rfl
        simp (decide := true) (maxDischargeDepth := 200) only [go_sem, tks_len, tks_0, c0, c1, c2, take_eq, FVal, nodeV_leaf, Tryz.results107]
      · rw [if_neg h2] at hs
        have c2 : decide ((k : Int) = 2) = false := decide_eq_false (by omega)
        by_cases h3 : k = 3
        · subst h3
          rw [if_pos rfl] at hs
          have c3 : decide (((3 : Nat) : Int) = 3) = true := rfl
          have e1 := gw_eq (nl := nl) hs
          obtain ⟨ka, opa, nma, vka, vna, vsa, csa, cca, cra, tsa, tca, tra, nla, sza, esa, ha'⟩ := nd_is a
          simp (decide := true) (maxDischargeDepth := 200) only [go_sem, tks_len, tks_0, c0, c1, c2, c3, e1, ha', Tryz.results107]
        · rw [if_neg h3] at hs
          have c3 : decide ((k : Int) = 3) = false := decide_eq_false (by omega)
          by_cases h4 : k = 4
          · subst h4
            rw [if_pos rfl] at hs
            have c4 : decide (((4 : Nat) : Int) = 4) = true := rfl
            have e1 := ref_eq (nl := nl) (en := en) hs
            obtain ⟨ka, opa, nma, vka, vna, vsa, csa, cca, cra, tsa, tca, tra, nla, sza, esa, ha'⟩ := nd_is a
            simp (decide := true) (maxDischargeDepth := 200) only [go_sem, tks_len, tks_0, c0, c1, c2, c3, c4, e1, ha', Tryz.results107]
          · rw [if_neg h4] at hs
            have c4 : decide ((k : Int) = 4) = false := decide_eq_false (by omega)
            by_cases h5 : sgn ((k, i, q) :: l) = ⟨#[40]⟩
            · rw [if_pos h5] at hs
              have c5 : decide (sgn ((k, i, q) :: l) = ⟨#[40]⟩) = true := decide_eq_true h5
              have e1 := gw_eq (nl := nl) hs
              obtain ⟨ka, opa, nma, vka, vna, vsa, csa, cca, cra, tsa, tca, tra, nla, sza, esa, ha'⟩ := nd_is a
              simp (decide := true) (maxDischargeDepth := 200) only [go_sem, tks_len, tks_0, c0, c1, c2, c3, c4, c5, sign_eq, e1, ha', Tryz.results107]
            · rw [if_neg h5] at hs
              obtain ⟨rfl, rfl, rfl⟩ := inj3 hs
              have c5 : decide (sgn ((k, i, q) :: l) = ⟨#[40]⟩) = false := decide_eq_false h5
              have c6 : atP (en : Int) ((k, i, q) :: l) = (i : Int) := rfl
              simp (decide := true) (maxDischargeDepth := 200) only [go_sem, tks_len, tks_0, c0, c1, c2, c3, c4, c5, c6, sign_eq, atP_eq, nodeV_leaf, Tryz.results107]

end Go.Proofs.YteibnmlfipkmeaaGreatDoor

/- The project's reader: calls, whose kids grow in a variable's field. -/
namespace Go.Proofs.YteibnmlfipkmeaaGreatDoor
open Go Go.RowKit
set_option linter.unusedSimpArgs false
theorem callNd_nil (nm : ByteArray) : nodeV (callNd nm []) = .agg ([.x (.int .i64 6), .x (.string ⟨#[]⟩), .x (.string nm), .x (.int .i64 0), .x (.int .i64 0), .x (.string ⟨#[]⟩), .x (.string ⟨#[]⟩), .x (.int .i64 0), .x (.int .i64 0), .x (.string ⟨#[]⟩), .x (.int .i64 0), .x (.int .i64 0)] ++ [.sl true 0 [] none]) := by rw [callNd, nodeV_leaf]; rfl
theorem callNd_cons (nm : ByteArray) (a : Nd) (l : List Nd) : nodeV (callNd nm (a :: l)) = .agg ([.x (.int .i64 6), .x (.string ⟨#[]⟩), .x (.string nm), .x (.int .i64 0), .x (.int .i64 0), .x (.string ⟨#[]⟩), .x (.string ⟨#[]⟩), .x (.int .i64 0), .x (.int .i64 0), .x (.string ⟨#[]⟩), .x (.int .i64 0), .x (.int .i64 0)] ++ [.sl false 13 ((a :: l).map nodeV) none]) := by rw [callNd, nodeV_mk]; rfl
theorem callNd_snoc (nm : ByteArray) (l : List Nd) (a : Nd) : nodeV (callNd nm (l ++ [a])) = .agg ([.x (.int .i64 6), .x (.string ⟨#[]⟩), .x (.string nm), .x (.int .i64 0), .x (.int .i64 0), .x (.string ⟨#[]⟩), .x (.string ⟨#[]⟩), .x (.int .i64 0), .x (.int .i64 0), .x (.string ⟨#[]⟩), .x (.int .i64 0), .x (.int .i64 0)] ++ [.sl false 13 (l.map nodeV ++ [nodeV a]) none]) := by
  cases l with
  | nil => rw [List.nil_append, callNd_cons]; rfl
  | cons b l => rw [List.cons_append, callNd_cons]; simp
/-- The kids of a call grow. -/
theorem push_kid {E : Env} (hP : E.P = Tryz.prog) (ks : List Nd) (a : Nd) (hk : ks.length ≤ 20) (st : St) (d tok : Nat) (nl : Bool) (t' : Option Nat) :
    growV E st (some d) 28 (.sl (ks.map nodeV).isEmpty 13 (ks.map nodeV) (some tok)) (.sl nl 13 [nodeV a] t') = some ⟨upd (strip tok (strip d st.t)) d (.sl false 13 (ks.map nodeV ++ [nodeV a]) (some d)), stripB E tok (stripB E d st.b)⟩ := by
  have h := growV_acc (E := E) (el := 28) (n := 13) (by rw [hP]; exact sz28) (by rw [hP]; exact by28) (by rw [hP]; exact ze28) (by decide) rfl (es := ks.map nodeV) (v := nodeV a) (cells_all a) (by rw [List.length_map]; omega) (by rw [List.length_map]; omega) st d tok nl t'
  exact h
set_option maxHeartbeats 8000000 in
set_option maxRecDepth 100000 in
theorem call_step (n : Nat) (hf : FunPV 51 (FE encQ (GW n .formula))) : FunPV 142 (FE encQ (GW (n + 1) .call)) := by
  refine fun_of_runP (E := envB [] (fun _ => false) [(51, (FE encQ (GW n .formula))), (92, (FE encQ GSign)), (93, (FE encQ GTake)), (143, (FE encQS GSkip))] (fun i => i == 4) (fun i => i == 11)) (k := 1) (envOK_B _ _ _ _ _ trivial ⟨hf, sign_fun, take_fun, skip_fun, trivial⟩) (fun s hs => by show (s == 4) = false; simp only [beq_eq_false_iff_ne, ne_eq]; omega) (by kernel_rfl) Tryz.func142 rfl (fun a w => Tryz.call142 a w) Tryz.ntmps142 (by kernel_rfl) (by decide) (by decide) ?_
  intro us r outs hF
  obtain ⟨⟨sh, nl, l, en⟩, hus, hG⟩ := FE_out hF
  clear hF
  subst hus
  have hF := hG
  clear hG
  obtain ⟨a, x, l', hres, rfl, rfl⟩ := gw_out hF
  clear hF
  simp only [encQ, rqV]
  refine ⟨rfl, ?_⟩
  have hs : stepP sh en n (pF sh en n) .call l = some (a, x, l') := hres
  clear hres
  cases l with
  | nil => cases hs
  | cons t l =>
    cases l with
    | nil => cases hs
    | cons u l =>
      obtain ⟨k, i, q⟩ := t
      obtain ⟨k6, i6, q6⟩ := u
      simp only [stepP] at hs
      by_cases h41 : sgn l = ⟨#[41]⟩
      · rw [if_pos h41] at hs
        have c1 : decide (sgn l = ⟨#[41]⟩) = true := decide_eq_true h41
        obtain ⟨i9, q9, l2, rfl⟩ := sgn_cons h41 (ne_empty _ _)
        simp only [List.tail_cons] at hs
        obtain ⟨rfl, rfl, rfl⟩ := inj3 hs
        simp (decide := true) (maxDischargeDepth := 200) only [go_sem, take_eq, sign_eq, c1, callNd_nil, Tryz.results142]
      · rw [if_neg h41] at hs
        have c1 : decide (sgn l = ⟨#[41]⟩) = false := decide_eq_false h41
        simp (decide := true) (maxDischargeDepth := 200) only [go_sem, take_eq, sign_eq, c1, Tryz.results142]
        refine loop_nilB 4 13 32 [.x (.int .i64 6), .x (.string ⟨#[]⟩), .x (.string (B q)), .x (.int .i64 0), .x (.int .i64 0), .x (.string ⟨#[]⟩), .x (.string ⟨#[]⟩), .x (.int .i64 0), .x (.int .i64 0), .x (.string ⟨#[]⟩), .x (.int .i64 0), .x (.int .i64 0)] [] (by simp (decide := true) only [go_sem] <;> rfl) ?_
        refine loop_of (X := {p : Nat × List Nd × List Tk // callsP (en : Int) (pF sh en n .formula) (B q) p.1 p.2.1 p.2.2 = some (a, x, l') ∧ p.2.1.length ≤ 19})
          (fun p => [(0, .ptr 1000 0), (2, .ptr 2 0), (4, .ptr 4 0)])
          (fun p => [(1000, rqL sh nl p.1.2.2 en), (2, [.x (.int .i64 0), .x (.string ⟨#[]⟩), .x (.string ⟨#[]⟩), .x (.int .i64 0), .x (.int .i64 0), .x (.string ⟨#[]⟩), .x (.string ⟨#[]⟩), .x (.int .i64 0), .x (.int .i64 0), .x (.string ⟨#[]⟩), .x (.int .i64 0), .x (.int .i64 0), .sl true 0 [] none]), (4, [.x (.int .i64 6), .x (.string ⟨#[]⟩), .x (.string (B q)), .x (.int .i64 0), .x (.int .i64 0), .x (.string ⟨#[]⟩), .x (.string ⟨#[]⟩), .x (.int .i64 0), .x (.int .i64 0), .x (.string ⟨#[]⟩), .x (.int .i64 0), .x (.int .i64 0)] ++ [.sl (p.1.2.1.map nodeV).isEmpty 13 (p.1.2.1.map nodeV) (some 32)])])
          (fun p => p.1.1) ⟨(n, [], l), hs, by simp⟩ (by simp (decide := true) only [go_sem] <;> (repeat' first | rfl | constructor)) (by simp (decide := true) only [go_sem] <;> (repeat' first | rfl | constructor)) (fun ⟨⟨k0, ks, r⟩, hk0⟩ => ?_)
        obtain ⟨hk, h19⟩ := hk0
        have hk : callsP (en : Int) (pF sh en n .formula) (B q) k0 ks r = some (a, x, l') := hk
        have h19 : ks.length ≤ 19 := h19
        cases k0 with
        | zero => cases hk
        | succ k0 =>
          simp only [callsP] at hk
          split at hk
          · cases hk
          · rename_i kid y l1 hkid
            have e1 := gw_eq (nl := nl) hkid
            obtain ⟨kd, opd, nmd, vkd, vnd, vsd, csd, ccd, crd, tsd, tcd, trd, nld, szd, esd, hd'⟩ := nd_is kid
            by_cases hy : y = -1
            · subst hy
              rw [if_pos rfl] at hk
              have g0 : ∀ (st : St) (t' : Option Nat), growV _ st (some 32) 28 (.sl (ks.map nodeV).isEmpty 13 (ks.map nodeV) (some 32)) (.sl false 13 [nodeV kid] t') = _ := fun st t' => push_kid (E := envB [] (fun _ => false) [(51, (FE encQ (GW n .formula))), (92, (FE encQ GSign)), (93, (FE encQ GTake)), (143, (FE encQS GSkip))] (fun i => i == 4) (fun i => i == 11)) rfl ks kid (by omega) st 32 32 false t'
              have z0 : (((ks.map nodeV ++ [nodeV kid]).length : Nat) : Int) = ((ks.length + 1 : Nat) : Int) := by simp
              have z1 := callNd_snoc (B q) ks kid
              rw [hd'] at g0 z0 z1
              by_cases hcm : sgn l1 = ⟨#[44]⟩
              · have c2 : decide (sgn l1 = ⟨#[44]⟩) = true := decide_eq_true hcm
                by_cases h20 : ks.length + 1 = 20
                · rw [if_neg (fun h => h.2 h20)] at hk
                  have c3 : decide (((ks.length + 1 : Nat) : Int) = 20) = true := decide_eq_true (by omega)
                  split at hk
                  case h_2 => cases hk
                  rename_i z l2 hz
                  obtain ⟨rfl, rfl, rfl⟩ := inj3 hk
                  have e2 := skip_eq sh nl l1 en hz
                  simp (decide := true) (maxDischargeDepth := 200) only [go_sem, e1, hd', g0, z0, c2, c3, sign_eq, Tryz.results142]
                  refine any_of [(0, .ptr 1000 0), (2, .ptr 2 0), (3, .x (.int .i64 z))] [(1000, rqL sh nl l2 en), (2, (nodeV (callNd (B q) (ks ++ [kid]))).cells)] (.alt 0 (.alt 1 (.alt 2 (.alt 3 (.alt 4 .fin .none) .none) .none) .none) (.alt 1 (.alt 0 (.alt 2 (.alt 3 (.alt 4 .fin .none) .none) .none) (.alt 2 (.alt 0 (.alt 3 (.alt 4 .fin .none) .none) .none) .none)) .none)) (by decide) ?_ ?_
                  · simp (decide := true) (maxDischargeDepth := 200) only [go_sem, e2, z1, Tryz.results142]
                  · simp (decide := true) (maxDischargeDepth := 200) only [go_sem, z1, Tryz.results142]
                · rw [if_pos ⟨hcm, h20⟩] at hk
                  have c3 : decide (((ks.length + 1 : Nat) : Int) = 20) = false := decide_eq_false (by omega)
                  obtain ⟨i9, q9, l2, rfl⟩ := sgn_cons hcm (ne_empty _ _)
                  simp only [List.tail_cons] at hk
                  simp (decide := true) (maxDischargeDepth := 200) only [go_sem, e1, hd', g0, z0, c2, c3, sign_eq, take_eq, Tryz.results142]
                  refine ⟨⟨(k0, ks ++ [kid], l2), hk, by simp; omega⟩, ?_, ?_, by simp only; omega⟩
                  · simp (decide := true) only [go_sem]
                  · have z2 : (ks ++ [kid]).map nodeV = ks.map nodeV ++ [nodeV kid] := by simp
                    have z3 : ((ks ++ [kid]).map nodeV).isEmpty = false := by simp
                    simp only [z3, z2]
                    rw [hd']
                    simp (decide := true) only [go_sem]
              · rw [if_neg (fun h => hcm h.1)] at hk
                have c2 : decide (sgn l1 = ⟨#[44]⟩) = false := decide_eq_false hcm
                split at hk
                case h_2 => cases hk
                rename_i z l2 hz
                obtain ⟨rfl, rfl, rfl⟩ := inj3 hk
                have e2 := skip_eq sh nl l1 en hz
                simp (decide := true) (maxDischargeDepth := 200) only [go_sem, e1, hd', g0, c2, sign_eq, Tryz.results142]
                refine any_of [(0, .ptr 1000 0), (2, .ptr 2 0), (3, .x (.int .i64 z))] [(1000, rqL sh nl l2 en), (2, (nodeV (callNd (B q) (ks ++ [kid]))).cells)] (.alt 0 (.alt 1 (.alt 2 (.alt 3 (.alt 4 .fin .none) .none) .none) .none) (.alt 1 (.alt 0 (.alt 2 (.alt 3 (.alt 4 .fin .none) .none) .none) (.alt 2 (.alt 0 (.alt 3 (.alt 4 .fin .none) .none) .none) .none)) .none)) (by decide) ?_ ?_
                · simp (decide := true) (maxDischargeDepth := 200) only [go_sem, e2, z1, Tryz.results142]
                · simp (decide := true) (maxDischargeDepth := 200) only [go_sem, z1, Tryz.results142]
            · rw [if_neg hy] at hk
              obtain ⟨rfl, rfl, rfl⟩ := inj3 hk
              have c2 : decide (y = -1) = false := decide_eq_false hy
              cases ks with
              | nil => simp (decide := true) (maxDischargeDepth := 200) only [go_sem, e1, hd', c2, callNd_nil, List.isEmpty_nil, Tryz.results142]
              | cons b ks => simp (decide := true) (maxDischargeDepth := 200) only [go_sem, e1, hd', c2, callNd_cons, List.isEmpty_cons, Tryz.results142]

end Go.Proofs.YteibnmlfipkmeaaGreatDoor

/- What holds from some depth on. Nothing of the program. -/
namespace Go.Proofs.YteibnmlfipkmeaaGreatDoor
open Go Go.RowKit

/-- From some depth on. -/
def Ev (p : Nat → Prop) : Prop := ∃ M, ∀ n, M ≤ n → p n
theorem Ev.and {p q : Nat → Prop} (hp : Ev p) (hq : Ev q) : Ev fun n => p n ∧ q n := by
  obtain ⟨M, h⟩ := hp
  obtain ⟨M', h'⟩ := hq
  exact ⟨max M M', fun n hn => ⟨h n (by omega), h' n (by omega)⟩⟩
theorem Ev.mono {p q : Nat → Prop} (hp : Ev p) (h : ∀ n, p n → q n) : Ev q := by
  obtain ⟨M, hM⟩ := hp
  exact ⟨M, fun n hn => h n (hM n hn)⟩
theorem Ev.up {p : Nat → Prop} (h : Ev fun n => p (n + 1)) : Ev p := by
  obtain ⟨M, hM⟩ := h
  refine ⟨M + 1, fun n hn => ?_⟩
  obtain ⟨k, rfl⟩ : ∃ k, n = k + 1 := ⟨n - 1, by omega⟩
  exact hM k (by omega)
theorem Ev.all {p : Nat → Prop} (h : ∀ n, p n) : Ev p := ⟨0, fun n _ => h n⟩
end Go.Proofs.YteibnmlfipkmeaaGreatDoor
