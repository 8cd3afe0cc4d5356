/- Chapter 10, the reference's functions of values. -/
import Derived.Test.YtfngpfnbhafmlaaGreatDoorMF
namespace Go.Proofs.YtfngpfnbhafmlaaGreatDoor
open Go Go.RowKit
set_option linter.unusedSimpArgs false
def catL (l : List T3) : ByteArray := l.foldl (fun t x => t ++ showB x.1 x.2.1 x.2.2) ⟨#[]⟩
theorem catL_snoc (l : List T3) (x : T3) : catL (l ++ [x]) = catL l ++ showB x.1 x.2.1 x.2.2 := by simp [catL]
def bL (f : Bool → Bool → Bool) : Bool → List T3 → T3
 | acc, [] => boolW acc
 | acc, x :: l => if x.1 = 3 ∨ x.1 = 0 then bL f (f acc (decide (x.2.1 = 1))) l else (4, 3, ⟨#[]⟩)
def bestStep (mn : Bool) (a : T3 × Bool) (x : T3) : T3 × Bool := if decide (x.1 = 1) && (a.2 || (if mn = true then decide (x.2.1 < a.1.2.1) else decide (a.1.2.1 < x.2.1))) = true then (x, false) else a
def bestL (mn : Bool) (l : List T3) : T3 × Bool := l.foldl (bestStep mn) ((1, 0, ⟨#[]⟩), true)
def avgW (s : T3) (n : Nat) : T3 := if n = 0 then (4, 2, ⟨#[]⟩) else pairW ⟨#[47]⟩ s.1 s.2.1 s.2.2 1 (n : Int) ⟨#[]⟩
def manyW (name : ByteArray) (l : List T3) : T3 := match faultL l with
 | some e => e
 | none =>
   if name = ⟨#[83, 85, 77]⟩ then (sumL l).1
   else if name = ⟨#[67, 79, 85, 78, 84]⟩ then (1, ((sumL l).2 : Int), ⟨#[]⟩)
   else if name = ⟨#[65, 86, 71]⟩ then avgW (sumL l).1 (sumL l).2
   else if name = ⟨#[67, 79, 78, 67, 65, 84]⟩ then textW (catL l)
   else if name = ⟨#[65, 78, 68]⟩ then bL (· && ·) true l
   else if name = ⟨#[79, 82]⟩ then bL (· || ·) false l
   else (bestL (decide (name = ⟨#[77, 73, 78]⟩)) l).1
theorem many_no {name : ByteArray} {l : List T3} (h : faultL l = none) : manyW name l =
 if name = ⟨#[83, 85, 77]⟩ then (sumL l).1
 else if name = ⟨#[67, 79, 85, 78, 84]⟩ then (1, ((sumL l).2 : Int), ⟨#[]⟩)
 else if name = ⟨#[65, 86, 71]⟩ then avgW (sumL l).1 (sumL l).2
 else if name = ⟨#[67, 79, 78, 67, 65, 84]⟩ then textW (catL l)
 else if name = ⟨#[65, 78, 68]⟩ then bL (· && ·) true l
 else if name = ⟨#[79, 82]⟩ then bL (· || ·) false l
 else (bestL (decide (name = ⟨#[77, 73, 78]⟩)) l).1 := by unfold manyW; rw [h]
end Go.Proofs.YtfngpfnbhafmlaaGreatDoor
namespace Go.Proofs.YtfngpfnbhafmlaaGreatDoor
open Go Go.RowKit
set_option linter.unusedSimpArgs false
def plainT (v : T3) : T3 := plainW v.1 v.2.1 v.2.2
def mL (v : T3) : Nat → List T3 → T3
 | _, [] => (4, 7, ⟨#[]⟩)
 | i, x :: l => if rightB x.1 x.2.1 x.2.2 = true ∧ cmpV x.1 x.2.1 x.2.2 v.1 v.2.1 v.2.2 = 0 then (1, ((i + 1 : Nat) : Int), ⟨#[]⟩) else mL v (i + 1) l
def matchW (l : List RW) : T3 := match l with
 | [r0, r1] => (match r0.2.2 with
   | [v0] => (match faultL [v0] with
     | some e => e
     | none => mL v0 0 r1.2.2)
   | _ => (4, 6, ⟨#[]⟩))
 | _ => (4, 6, ⟨#[]⟩)
def ifW (L : List T3) : T3 := match L with
 | [v0, v1, v2] => (match faultL [v0] with
   | some e => e
   | none => if v0.1 = 3 ∨ v0.1 = 0 then (if v0.2.1 = 1 then plainT v1 else plainT v2) else (4, 3, ⟨#[]⟩))
 | _ => (4, 6, ⟨#[]⟩)
def chooseW (L : List T3) : T3 := match L with
 | v0 :: v1 :: rest => (match faultL [v0] with
   | some e => e
   | none => match numE v0.1 v0.2.1 v0.2.2 with
     | some w => w
     | none => if v0.2.1 < 1 ∨ ((rest.length + 2 : Nat) : Int) ≤ v0.2.1 then (4, 7, ⟨#[]⟩) else plainT ((v0 :: v1 :: rest).getD v0.2.1.toNat (0, 0, ⟨#[]⟩)))
 | _ => (4, 6, ⟨#[]⟩)
def lazyW (name : ByteArray) (l : List RW) : T3 :=
 if name = ⟨#[77, 65, 84, 67, 72]⟩ then matchW l
 else if oneL l (l.length : Int) = true then (if name = ⟨#[73, 70]⟩ then ifW (allL l) else chooseW (allL l)) else (4, 6, ⟨#[]⟩)
def encNA (p : ByteArray × AW) : List V := [.x (.string p.1), awV p.2]
theorem encNA_inj (p q : ByteArray × AW) (e : encNA p = encNA q) : p = q := by
 obtain ⟨a, b⟩ := p
 obtain ⟨a', b'⟩ := q
 simp only [encNA, List.cons.injEq, V.x.injEq, Value.string.injEq, and_true] at e
 obtain ⟨h1, h2⟩ := e
 rw [h1, awV_inj _ _ h2]
theorem allL_len {l : List RW} (h : oneL l (l.length : Int) = true) : (allL l).length = l.length := by
 unfold oneL at h
 rw [Bool.and_eq_true, List.all_eq_true] at h
 have h2 := h.2
 clear h
 induction l with
 | nil => rfl
 | cons r l ih =>
   have e : allL (r :: l) = r.2.2 ++ allL l := rfl
   have h1 := of_decide_eq_true (h2 r (List.mem_cons_self ..))
   rw [e, List.length_append, ih (fun x hx => h2 x (List.mem_cons_of_mem _ hx)), h1, List.length_cons]
   omega
theorem allL_in {l : List RW} (h : ∀ r ∈ l, okRw r) : ∀ v ∈ allL l, inR v.2.1 := by
 intro v hv
 obtain ⟨r, hr, hv⟩ := List.mem_flatMap.1 hv
 exact (h r hr).2.1 v hv
end Go.Proofs.YtfngpfnbhafmlaaGreatDoor
namespace Go.Proofs.YtfngpfnbhafmlaaGreatDoor
open Go Go.RowKit
set_option linter.unusedSimpArgs false
def manyN : List ByteArray := [⟨#[83, 85, 77]⟩, ⟨#[77, 73, 78]⟩, ⟨#[77, 65, 88]⟩, ⟨#[67, 79, 85, 78, 84]⟩, ⟨#[65, 86, 71]⟩, ⟨#[65, 78, 68]⟩, ⟨#[79, 82]⟩, ⟨#[67, 79, 78, 67, 65, 84]⟩]
def lazyN : List ByteArray := [⟨#[73, 70]⟩, ⟨#[67, 72, 79, 79, 83, 69]⟩, ⟨#[77, 65, 84, 67, 72]⟩]
def oneN : List ByteArray := [⟨#[78, 79, 84]⟩, ⟨#[65, 66, 83]⟩, ⟨#[83, 73, 71, 78]⟩, ⟨#[76, 69, 78]⟩, ⟨#[85, 80, 80, 69, 82]⟩, ⟨#[76, 79, 87, 69, 82]⟩, ⟨#[73, 83, 66, 76, 65, 78, 75]⟩, ⟨#[73, 83, 69, 82, 82]⟩]
def twoN : List ByteArray := [⟨#[77, 79, 68]⟩, ⟨#[76, 69, 70, 84]⟩, ⟨#[82, 73, 71, 72, 84]⟩, ⟨#[70, 73, 78, 68]⟩]
def withL (L : List T3) (f : List T3 → T3) : T3 := match faultL L with
 | some e => e
 | none => f L
def one1 (name : ByteArray) (L : List T3) : T3 := match L with
 | [v] => oneW name v.1 v.2.1 v.2.2
 | _ => (4, 6, ⟨#[]⟩)
def two2 (name : ByteArray) (L : List T3) : T3 := match L with
 | [v, w] => twoW name v w
 | _ => (4, 6, ⟨#[]⟩)
def mid3 (L : List T3) : T3 := match L with
 | [v, w, x] => midW v w x
 | _ => (4, 6, ⟨#[]⟩)
def callW (name : ByteArray) (l : List RW) : T3 :=
 if (manyN.any fun x => decide (name = x)) = true then manyW name (allL l)
 else if name = ⟨#[67, 79, 85, 78, 84, 65]⟩ then (1, ((cntA (allL l) : Nat) : Int), ⟨#[]⟩)
 else if (lazyN.any fun x => decide (name = x)) = true then lazyW name l
 else if (oneN.any fun x => decide (name = x)) = true then (if oneL l 1 = true then (if name = ⟨#[73, 83, 69, 82, 82]⟩ then boolW (faultL (allL l)).isSome else withL (allL l) (one1 name)) else (4, 6, ⟨#[]⟩))
 else if (twoN.any fun x => decide (name = x)) = true then (if oneL l 2 = true then withL (allL l) (two2 name) else (4, 6, ⟨#[]⟩))
 else if name = ⟨#[77, 73, 68]⟩ then (if oneL l 3 = true then withL (allL l) mid3 else (4, 6, ⟨#[]⟩))
 else (4, 5, ⟨#[]⟩)
open Classical in
noncomputable def GCall (p : ByteArray × AW) : Option V := if okAw p.2 then some (tv (callW p.1 p.2.2.2)) else none
open Classical in
theorem GCall_of {name : ByteArray} {nl : Bool} {sz : Nat} {l : List RW} (h : okAw (nl, sz, l)) : FE encNA GCall [.x (.string name), .sl nl sz (l.map rwV) none] = some (tv (callW name l)) := (FE_at encNA_inj _ (name, nl, sz, l)).trans (if_pos h)
theorem one_len {l : List RW} {n : Nat} (h : oneL l (n : Int) = true) : (allL l).length = n := by
 have h0 := h
 unfold oneL at h0
 rw [Bool.and_eq_true, decide_eq_true_eq] at h0
 have e : ((l.length : Nat) : Int) = (n : Int) := h0.1
 have : oneL l (l.length : Int) = true := by rw [e]; exact h
 rw [allL_len this]
 omega
end Go.Proofs.YtfngpfnbhafmlaaGreatDoor
namespace Go.Proofs.YtfngpfnbhafmlaaGreatDoor
open Go Go.RowKit
set_option linter.unusedSimpArgs false
def byV (b : UInt8) : V := .x (.int .u8 b.toNat)
theorem bytesV_byV (s : ByteArray) : bytesV s = s.data.toList.map byV := rfl
def turnI (g : Bool) (l : List UInt8) (i : Nat) : List V := ((l.take i).map (turnB g) ++ l.drop i).map byV
theorem turnI_zero (g : Bool) (l : List UInt8) : turnI g l 0 = l.map byV := rfl
theorem turnI_len (g : Bool) (l : List UInt8) (i : Nat) : (turnI g l i).length = l.length := by
 unfold turnI
 simp only [List.length_map, List.length_append, List.length_take, List.length_drop]
 omega
theorem turnI_at {g : Bool} {l : List UInt8} {i : Nat} {b : UInt8} (h : l[i]? = some b) : (turnI g l i)[((i : Nat) : Int).toNat * 1]? = some (.x (.int .u8 b.toNat)) := by
 have hi := List.getElem?_eq_some_iff.1 h
 obtain ⟨hi, hb⟩ := hi
 unfold turnI
 rw [Int.toNat_natCast, Nat.mul_one, List.getElem?_map, List.getElem?_append_right (by rw [List.length_map, List.length_take]; omega), List.length_map, List.length_take, List.getElem?_drop, Nat.min_eq_left (by omega), Nat.sub_self, Nat.add_zero, h]
 rfl
theorem turnI_put {g : Bool} {l : List UInt8} {i : Nat} {b : UInt8} (h : l[i]? = some b) : (turnI g l i).take (((i : Nat) : Int).toNat * 1) ++ V.x (.int .u8 (turnB g b).toNat) :: (turnI g l i).drop (((i : Nat) : Int).toNat * 1 + 1) = turnI g l (i + 1) := by
 obtain ⟨hi, hb⟩ := List.getElem?_eq_some_iff.1 h
 subst hb
 have e : l.take (i + 1) = l.take i ++ [l[i]] := by rw [List.take_add_one, h]; rfl
 have e1 : ((l.take i).map (turnB g)).length = i := by rw [List.length_map, List.length_take]; omega
 have e2 : (((l.take i).map (turnB g)).map byV).length = i := by rw [List.length_map, e1]
 unfold turnI
 rw [Int.toNat_natCast, Nat.mul_one, e, List.map_append (f := turnB g), List.map_append, List.map_append, List.map_append]
 rw [List.take_append_of_le_length (by omega), List.take_of_length_le (by omega), List.drop_append, e2, List.drop_of_length_le (by omega)]
 have e3 : i + 1 - i = 1 := by omega
 rw [e3, ← List.map_drop, List.drop_drop, List.append_assoc]
 rfl
theorem turnI_put' {g : Bool} {l : List UInt8} {i : Nat} {b : UInt8} (h : l[i]? = some b) : (turnI g l i).take (((i : Nat) : Int).toNat * 1) ++ [V.x (.int .u8 (turnB g b).toNat)] ++ (turnI g l i).drop (((i : Nat) : Int).toNat * 1 + 1) = turnI g l (i + 1) := by
 rw [List.append_assoc]
 exact turnI_put h
theorem turnI_same {g : Bool} {l : List UInt8} {i : Nat} {b : UInt8} (h : l[i]? = some b) (hb : turnB g b = b) : turnI g l (i + 1) = turnI g l i := by
 obtain ⟨hi, hb'⟩ := List.getElem?_eq_some_iff.1 h
 have e : l.take (i + 1) = l.take i ++ [b] := by rw [List.take_add_one, h]; rfl
 have e1 : l.drop i = b :: l.drop (i + 1) := by rw [List.drop_eq_getElem_cons hi, hb']
 unfold turnI
 rw [e, e1, List.map_append (f := turnB g), List.map_cons, List.map_nil, hb, List.append_assoc]
 rfl
theorem bytesOf_byV : ∀ l : List UInt8, bytesOf (l.map byV) = some l
 | [] => rfl
 | b :: l => by
   have ih := bytesOf_byV l
   rw [List.map_cons]
   unfold bytesOf byV
   simp only [← byV.eq_1]
   have e : (fun b : UInt8 => byV b) = byV := rfl
   rw [ih]
   simp
theorem turnI_end (g : Bool) (s : ByteArray) {i : Nat} (h : i = s.size) : bytesOf ((turnI g s.data.toList i).take s.size) = some (s.data.toList.map (turnB g)) := by
 have hs : s.data.toList.length = s.size := Array.length_toList
 unfold turnI
 rw [h, List.take_of_length_le (by simp only [List.length_map, List.length_append, List.length_take, List.length_drop]; omega), List.take_of_length_le (by omega), List.drop_of_length_le (by omega), List.append_nil, bytesOf_byV]
theorem u8_wrap {n : Int} (h0 : 0 ≤ n) (h1 : n < 256) : bWrap .u8 n = n := by
 rw [bWrap_eq]
 have e : IntKind.u8.wrap n = n % 256 := by simp [IntKind.wrap, IntKind.bits, IntKind.signed]
 rw [e]
 omega
theorem small_down {b : UInt8} (h : 97 ≤ b ∧ b ≤ 122) : bWrap .u8 ((b.toNat : Int) - 32) = (((b - 32).toNat : Nat) : Int) := by
 have h1 := UInt8.le_iff_toNat_le.1 h.1
 have h2 := UInt8.le_iff_toNat_le.1 h.2
 have e1 : (97 : UInt8).toNat = 97 := rfl
 have e2 : (122 : UInt8).toNat = 122 := rfl
 have e3 : (32 : UInt8).toNat = 32 := rfl
 have e4 := UInt8.toNat_sub_of_le b 32 (UInt8.le_iff_toNat_le.2 (by omega))
 rw [u8_wrap (by omega) (by omega), e4, e3]
 omega
theorem great_up {b : UInt8} (h : 65 ≤ b ∧ b ≤ 90) : bWrap .u8 ((b.toNat : Int) + 32) = (((b + 32).toNat : Nat) : Int) := by
 have h1 := UInt8.le_iff_toNat_le.1 h.1
 have h2 := UInt8.le_iff_toNat_le.1 h.2
 have e1 : (65 : UInt8).toNat = 65 := rfl
 have e2 : (90 : UInt8).toNat = 90 := rfl
 have e3 : (32 : UInt8).toNat = 32 := rfl
 have e4 := UInt8.toNat_add b 32
 rw [u8_wrap (by omega) (by omega), e4, e3]
 omega
theorem not_in {b lo hi : UInt8} (h : ¬ (lo ≤ b ∧ b ≤ hi)) : (decide ((lo.toNat : Int) ≤ (b.toNat : Int)) && decide ((b.toNat : Int) ≤ (hi.toNat : Int))) = false := by
 rw [Bool.and_eq_false_iff, decide_eq_false_iff_not, decide_eq_false_iff_not]
 by_cases h1 : lo ≤ b
 · right
   intro h2
   exact h ⟨h1, UInt8.le_iff_toNat_le.2 (by omega)⟩
 · left
   intro h2
   exact h1 (UInt8.le_iff_toNat_le.2 (by omega))
end Go.Proofs.YtfngpfnbhafmlaaGreatDoor
namespace Go.Proofs.YtfngpfnbhafmlaaGreatDoor
open Go Go.RowKit
end Go.Proofs.YtfngpfnbhafmlaaGreatDoor
