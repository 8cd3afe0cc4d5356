/- Bytes, texts, letters and digits: plain words, of no program and of no layer. -/
import Derived.Test.YtkacldoiimlmcaaPfO
import Derived.KernelRfl
namespace Go.Proofs.Ytkacldoiimlmcaa
open Go Go.RowKit
set_option linter.unusedSimpArgs false

def smallI (b : Int) : Bool := decide (97 ≤ b) && decide (b ≤ 122)
def greatI (b : Int) : Bool := decide (65 ≤ b) && decide (b ≤ 90)
def digitI (b : Int) : Bool := decide (48 ≤ b) && decide (b ≤ 57)
def FSmall : List V → Option V
  | [.x (.int .u8 b)] => some (.x (.bool (smallI b)))
  | _ => none
def FGreat : List V → Option V
  | [.x (.int .u8 b)] => some (.x (.bool (greatI b)))
  | _ => none
def FDigit : List V → Option V
  | [.x (.int .u8 b)] => some (.x (.bool (digitI b)))
  | _ => none

/-- A text by its bytes. -/
def B (l : List UInt8) : ByteArray := ⟨⟨l⟩⟩
theorem B_size (l : List UInt8) : (B l).size = l.length := rfl
theorem B_of (s : ByteArray) : ∃ l, s = B l := ⟨s.data.toList, rfl⟩
theorem B_data (s : ByteArray) : B s.data.toList = s := rfl
theorem B_bytes (l : List UInt8) : (B l).data.toList = l := rfl
theorem B_append (a b : List UInt8) : B a ++ B b = B (a ++ b) := by
  apply ByteArray.ext
  apply Array.toList_inj.1
  simp [B]
theorem B_inj {a b : List UInt8} : B a = B b ↔ a = b := ⟨fun h => by cases h; rfl, fun h => by rw [h]⟩
theorem B_arr (l : List UInt8) : (⟨l.toArray⟩ : ByteArray) = B l := rfl
theorem byteV_B {l : List UInt8} {i : Nat} {b : UInt8} (h : l[i]? = some b) : byteV (B l) (i : Int) = b.toNat := by
  unfold byteV B
  simp [h]
theorem subV_B (l : List UInt8) (a b : Nat) : subV (B l) (a : Int) (b : Int) = B ((l.take b).drop a) := by
  unfold subV
  apply ByteArray.ext
  apply Array.toList_inj.1
  simp [B, List.extract_eq_take_drop]
  rw [List.drop_take]
theorem sub_take (l : List UInt8) (k : Nat) : subV (B l) 0 (k : Int) = B (l.take k) := by
  rw [show ((0 : Int)) = ((0 : Nat) : Int) from rfl, subV_B]; simp
theorem sub_drop (l : List UInt8) (k : Nat) : subV (B l) (k : Int) ((B l).size : Int) = B (l.drop k) := by
  rw [subV_B, B_size, List.take_length]
theorem take_snoc {l : List UInt8} {i : Nat} {b : UInt8} (h : l[i]? = some b) : l.take (i + 1) = l.take i ++ [b] := by
  rw [List.take_add_one, h]
  rfl
theorem get_of {α : Type} {l : List α} {i : Nat} (h : i < l.length) : ∃ b, l[i]? = some b := ⟨_, List.getElem?_eq_getElem h⟩
theorem drop_cons {α : Type} {l : List α} {i : Nat} {b : α} (h : l[i]? = some b) : l.drop i = b :: l.drop (i + 1) := by
  have hi : i < l.length := (List.getElem?_eq_some_iff.1 h).1
  rw [List.drop_eq_getElem_cons hi, (List.getElem?_eq_some_iff.1 h).2]
theorem drop_get {α : Type} (l : List α) (a i : Nat) : (l.drop a)[i]? = l[a + i]? := List.getElem?_drop
theorem cat_size (a b : ByteArray) : (a ++ b).size = a.size + b.size := ByteArray.size_append
theorem cat_B {a b : List UInt8} (h : a.length + b.length ≤ 9223372036854775807) : catV (B a) (B b) = some (.str (B (a ++ b))) := by
  rw [catV_ok (by rw [B_size, B_size]; exact h), B_append]
/-- Bytes as numbers. -/
theorem byte_eq {b c : UInt8} {n : Int} (h : (c.toNat : Int) = n) : decide (((b.toNat : Nat) : Int) = n) = decide (b = c) := by
  rw [Bool.eq_iff_iff]
  simp only [decide_eq_true_eq, ← h]
  constructor
  · intro e; exact UInt8.toNat_inj.1 (by omega)
  · rintro rfl; rfl
theorem dec_refl {α : Type} [DecidableEq α] (x : α) : decide (x = x) = true := decide_eq_true rfl
theorem bq_self (b : Bool) : (b == b) = true := by cases b <;> rfl
end Go.Proofs.Ytkacldoiimlmcaa
