/- Reading a value. -/
import Derived.Test.YtaojlcgcghdlmaaDoorValE
import Derived.Deep.QuietTactic
import Derived.BigQuiet
namespace Go.Proofs.YtaojlcgcghdlmaaDoor
open Go.RowKit

/-- A number out of bytes, the highest first. -/
def beNat (l : List UInt8) : Nat := l.foldl (fun a x => a * 256 + x.toNat) 0

theorem beNat_snoc (l : List UInt8) (x : UInt8) : beNat (l ++ [x]) = beNat l * 256 + x.toNat := by simp [beNat]
theorem beNat_take (l : List UInt8) (k : Nat) (h : k < l.length) : beNat (l.take (k + 1)) = beNat (l.take k) * 256 + l[k].toNat := by
  rw [List.take_succ_eq_append_getElem h, beNat_snoc]
theorem beNat_from (l : List UInt8) : ∀ a, l.foldl (fun a x => a * 256 + x.toNat) a < (a + 1) * 256 ^ l.length := by
  induction l with
  | nil => intro a; simp
  | cons x l ih =>
    intro a
    have h := ih (a * 256 + x.toNat)
    have hx := x.toNat_lt
    simp only [List.foldl_cons, List.length_cons]
    refine Nat.lt_of_lt_of_le h ?_
    rw [Nat.pow_succ, Nat.mul_comm (256 ^ l.length) 256, ← Nat.mul_assoc]
    exact Nat.mul_le_mul_right _ (by omega)
theorem beNat_lt (l : List UInt8) : beNat l < 256 ^ l.length := by
  have h := beNat_from l 0
  rw [Nat.zero_add, Nat.one_mul] at h
  exact h
theorem shl8 (a x : Nat) (ha : a < 72057594037927936) (hx : x < 256) : bits .or .u64 (IntKind.u64.wrap ((a : Int) * 256)) (x : Int) = ((a * 256 + x : Nat) : Int) := by
  have e : IntKind.u64.wrap ((a : Int) * 256) = ((a * 256 : Nat) : Int) := by rw [IntKind.wrap_u64]; omega
  rw [e, u64_or_nat _ _ (by omega) (by omega)]
  have h := Nat.shiftLeft_add_eq_or_of_lt (i := 8) (b := x) (by omega) a
  rw [Nat.shiftLeft_eq] at h
  exact congrArg _ h.symm

set_option maxHeartbeats 400000 in
theorem readInt_any (b o c : Nat) (l : List UInt8) (hl : l.length = 8) (w : World) (hc : ∀ i (h : i < l.length), w.cell? ⟨b, o + i, none⟩ = some (.int .u8 l[i].toNat)) :
    Calls Tryd.prog 27 #[.slice (some ⟨b, o, none⟩) 8 c] w fun e w' => e = .returned (.int .i64 (wrap64 (beNat l))) ∧ w = w' := by
  have HL := Lib.hid hl
  go_enter Tryd.func27, Tryd.ntmps27
  clear hl
  go_wp2
  go_loop [3, 8] (fun n i => ∃ k : Nat, k ≤ 8 ∧ i = .int .i64 k ∧ n = .int .u64 (beNat (l.take k))) (fun _ i => 8 - (intOf i).toNat)
  case atStart => exact ⟨0, by omega, rfl, rfl⟩
  case round =>
    obtain ⟨k, hk, rfl, rfl⟩ := hrel
    by_cases hlt : k < 8
    · have hkl : k < l.length := by have := HL.out; omega
      have hck := hc k hkl
      have hx := l[k].toNat_lt
      clear hc
      obtain ⟨a, ha⟩ : ∃ a, a = beNat (l.take k) := ⟨_, rfl⟩
      obtain ⟨x, hxe⟩ : ∃ x : Nat, x = l[k].toNat := ⟨_, rfl⟩
      rw [← ha]
      rw [← hxe] at hck hx
      have HA := Lib.hid ha
      have HX := Lib.hid hxe
      clear ha hxe
      go_wp2
      go_round
      case rel =>
        have h1 := beNat_take l k hkl
        have h2 := beNat_lt (l.take k)
        have h3 : 256 ^ (l.take k).length ≤ 256 ^ 7 := Nat.pow_le_pow_right (by omega) (by rw [List.length_take]; omega)
        rw [← HX.out, ← HA.out] at h1
        rw [← HA.out] at h2
        exact ⟨k + 1, by omega, by go_num, by rw [shl8 a x (by omega) (by omega), h1]⟩
      case measure => simp [intOf]; omega
    · obtain rfl : k = 8 := by omega
      have e : l.take 8 = l := List.take_of_length_le (by have := HL.out; omega)
      rw [e]
      clear e
      go_wp2
      go_ret
      exact ⟨rfl, rfl⟩

/-- What bytes begin with, right or not: kind, number, text, how many bytes (0: nothing). -/
def readRaw : List UInt8 → Int × Int × ByteArray × Int
  | [] => (0, 0, ⟨#[]⟩, 0)
  | x :: r =>
    if x.toNat = 0 then (0, 0, ⟨#[]⟩, 1)
    else if x.toNat = 1 then (if 8 ≤ r.length then (1, wrap64 (beNat (r.take 8)), ⟨#[]⟩, 9) else (0, 0, ⟨#[]⟩, 0))
    else if x.toNat = 2 then (match r with | [] => (0, 0, ⟨#[]⟩, 0) | y :: r => if y.toNat ≤ r.length then (2, 0, ⟨(r.take y.toNat).toArray⟩, 2 + y.toNat) else (0, 0, ⟨#[]⟩, 0))
    else if x.toNat = 3 ∨ x.toNat = 4 then (match r with | [] => (0, 0, ⟨#[]⟩, 0) | y :: _ => (x.toNat, y.toNat, ⟨#[]⟩, 2))
    else (0, 0, ⟨#[]⟩, 0)

def rawTuple (x : Int × Int × ByteArray × Int) : Ending := .returned (.tuple #[.agg #[.int .i64 x.1, .int .i64 x.2.1, .string x.2.2.1], .int .i64 x.2.2.2])

set_option maxHeartbeats 1000000 in
theorem readAny_nil (A : Option Addr) (c : Nat) (w : World) :
    Calls Tryd.prog 18 #[.slice A 0 c] w fun e w' => e = rawTuple (readRaw []) ∧ Below w.heap.size w w' := by
  go_enter Tryd.func18, Tryd.ntmps18
  go_wp2
  exact bodyPost_ret (v := .tuple #[.agg #[.int .i64 0, .int .i64 0, .string ⟨#[]⟩], .int .i64 0]) (by simp [results, Tryd.results18, go_sem]) rfl ⟨rfl, below_new w _⟩

def oneRaw (x : Nat) : Int × Int × ByteArray × Int := if x = 0 then (0, 0, ⟨#[]⟩, 1) else (0, 0, ⟨#[]⟩, 0)

set_option maxHeartbeats 1000000 in
theorem readAny_one (b o c : Nat) (x : Nat) (hx8 : x < 256) (w : World) (h0 : w.cell? ⟨b, o, none⟩ = some (.int .u8 x)) (hb : b < w.heap.size) :
    Calls Tryd.prog 18 #[.slice (some ⟨b, o, none⟩) 1 c] w fun e w' => e = rawTuple (oneRaw x) ∧ Below w.heap.size w w' := by
  by_cases hx : x = 0
  · subst hx
    go_enter Tryd.func18, Tryd.ntmps18
    go_wp2
    go_quiet (fail)
    go_wp2
    all_goals exact bodyPost_ret (v := .tuple #[.agg #[.int .i64 0, .int .i64 0, .string ⟨#[]⟩], .int .i64 1]) (by simp [results, Tryd.results18, go_sem]) rfl ⟨rfl, ((((below_drewN (below_new w _) _).setCell (p := ⟨_, 0, none⟩) (Nat.le_refl _) _).setCell (p := ⟨_, 1, none⟩) (Nat.le_refl _) _).setCell (p := ⟨_, 2, none⟩) (Nat.le_refl _) _)⟩
  · have hx0 : ((x : Int) == 0) = false := beq_eq_false_iff_ne.2 (by omega)
    have e1 : oneRaw x = (0, 0, ⟨#[]⟩, 0) := by simp [oneRaw, hx]
    rw [e1]
    clear hx e1
    have hw : wrap64 (x : Int) = x := by unfold wrap64; omega
    go_enter Tryd.func18, Tryd.ntmps18
    go_wp2
    go_quiet (fail)
    go_wp2
    all_goals exact bodyPost_ret (v := .tuple #[.agg #[.int .i64 0, .int .i64 0, .string ⟨#[]⟩], .int .i64 0]) (by simp [results, Tryd.results18, go_sem]) rfl ⟨rfl, ((((below_drewN (below_new w _) _).setCell (p := ⟨_, 0, none⟩) (Nat.le_refl _) _).setCell (p := ⟨_, 1, none⟩) (Nat.le_refl _) _).setCell (p := ⟨_, 2, none⟩) (Nat.le_refl _) _)⟩

set_option maxHeartbeats 1000000 in
theorem readAny_text (b o c n y : Nat) (h2 : 2 ≤ n) (hn : n ≤ c) (hm : c ≤ maxLen) (hy : y + 2 ≤ n) (hy8 : y < 256) (l : List UInt8) (hl : l.length = y) (w : World) (h0 : w.cell? ⟨b, o, none⟩ = some (.int .u8 2)) (h1 : w.cell? ⟨b, o + 1, none⟩ = some (.int .u8 y))
    (hc : ∀ i (h : i < l.length), w.cell? ⟨b, o + (2 + i), none⟩ = some (.int .u8 l[i].toNat)) (hb : b < w.heap.size) :
    Calls Tryd.prog 18 #[.slice (some ⟨b, o, none⟩) n c] w fun e w' => e = rawTuple (2, 0, ⟨l.toArray⟩, 2 + y) ∧ Below w.heap.size w w' := by
  unfold maxLen at hm
  have hc1 : ¬ c = 1 := by omega
  have hw : wrap64 (y : Int) = y := by unfold wrap64; omega
  have hcv : ∀ (A cap nq : Nat), (A = o + 1 + 1 ∨ y = 0) → (convert 24 9 (.slice (some ⟨b, A, none⟩) y cap)).run Tryd.prog ((w.alloc (.cells #[.int .i64 0, .int .i64 0, .string ⟨#[]⟩] 23)).drewN nq) =
      .ok (.string ⟨l.toArray⟩) ((w.alloc (.cells #[.int .i64 0, .int .i64 0, .string ⟨#[]⟩] 23)).drewN nq) := by
    intro A cap nq hA
    rw [← hl]
    refine run_convert_bytes_back _ 24 9 5 ⟨b, A, none⟩ cap l Tryd.underlying24 Tryd.underlying5 Tryd.underlying9 (fun j hj => ?_)
    rcases hA with rfl | h
    · rw [add_plain, show o + 1 + 1 + j = o + (2 + j) from by omega, ← hc j hj]
      exact (below_drewN (below_new w _) _).cell (p := ⟨b, o + (2 + j), none⟩) hb
    · omega
  by_cases hc2 : c = 2
  · obtain rfl : n = 2 := by omega
    obtain rfl : y = 0 := by omega
    subst hc2
    have hcw := fun nq => hcv (o + 1) 0 nq (.inr rfl)
    clear hl hc hcv
    go_enter Tryd.func18, Tryd.ntmps18
    go_wp2
    go_quiet (fail)
    go_wp2
    exact bodyPost_ret (v := .tuple #[.agg #[.int .i64 2, .int .i64 0, .string ⟨l.toArray⟩], .int .i64 2]) (by simp [results, Tryd.results18, go_sem]) rfl ⟨rfl, ((((below_drewN (below_new w _) _).setCell (p := ⟨_, 0, none⟩) (Nat.le_refl _) _).setCell (p := ⟨_, 1, none⟩) (Nat.le_refl _) _).setCell (p := ⟨_, 2, none⟩) (Nat.le_refl _) _)⟩
  · have hc2' : ¬ c - 1 = 1 := by omega
    have hcw := fun nq => hcv (o + 1 + 1) (c - 1 - 1) nq (.inl rfl)
    clear hl hc hcv
    go_enter Tryd.func18, Tryd.ntmps18
    go_wp2
    go_quiet (fail)
    go_wp2
    exact bodyPost_ret (v := .tuple #[.agg #[.int .i64 2, .int .i64 0, .string ⟨l.toArray⟩], .int .i64 (2 + y)]) (by simp [results, Tryd.results18, go_sem]) rfl ⟨rfl, ((((below_drewN (below_new w _) _).setCell (p := ⟨_, 0, none⟩) (Nat.le_refl _) _).setCell (p := ⟨_, 1, none⟩) (Nat.le_refl _) _).setCell (p := ⟨_, 2, none⟩) (Nat.le_refl _) _)⟩

set_option maxHeartbeats 1000000 in
theorem readAny_num (b o c n : Nat) (h2 : 9 ≤ n) (hn : n ≤ c) (_hm : c ≤ maxLen) (l : List UInt8) (hl : l.length = 8) (w : World) (h0 : w.cell? ⟨b, o, none⟩ = some (.int .u8 1))
    (hc : ∀ i (h : i < l.length), w.cell? ⟨b, o + 1 + i, none⟩ = some (.int .u8 l[i].toNat)) (hb : b < w.heap.size) :
    Calls Tryd.prog 18 #[.slice (some ⟨b, o, none⟩) n c] w fun e w' => e = rawTuple (1, wrap64 (beNat l), ⟨#[]⟩, 9) ∧ Below w.heap.size w w' := by
  have hc1 : ¬ c = 1 := by omega
  have hrd : ∀ nq, Calls Tryd.prog 27 #[.slice (some ⟨b, o + 1, none⟩) 8 (c - 1)] ((w.alloc (.cells #[.int .i64 0, .int .i64 0, .string ⟨#[]⟩] 23)).drewN nq)
      fun e w' => e = .returned (.int .i64 (wrap64 (beNat l))) ∧ ((w.alloc (.cells #[.int .i64 0, .int .i64 0, .string ⟨#[]⟩] 23)).drewN nq) = w' := fun nq =>
    readInt_any b (o + 1) (c - 1) l hl _ (fun i h => by rw [← hc i h]; exact (below_drewN (below_new w _) _).cell (p := ⟨b, o + 1 + i, none⟩) hb)
  clear hc hl
  obtain ⟨z, hz⟩ : ∃ z, z = wrap64 (beNat l) := ⟨_, rfl⟩
  rw [← hz] at hrd ⊢
  clear hz
  have HR := Lib.hid hrd
  clear hrd
  go_enter Tryd.func18, Tryd.ntmps18
  go_wp2
  go_quiet (fail)
  go_wp2_with (go_at_call 27; ((with_reducible refine (HR.out _).mono ?_); rintro e w1 ⟨rfl, rfl⟩))
  exact bodyPost_ret (v := .tuple #[.agg #[.int .i64 1, .int .i64 z, .string ⟨#[]⟩], .int .i64 9]) (by simp [results, Tryd.results18, go_sem]) rfl ⟨rfl, ((((below_drewN (below_new w _) _).setCell (p := ⟨_, 0, none⟩) (Nat.le_refl _) _).setCell (p := ⟨_, 1, none⟩) (Nat.le_refl _) _).setCell (p := ⟨_, 2, none⟩) (Nat.le_refl _) _)⟩

set_option maxHeartbeats 1000000 in
theorem readAny_pair (b o c n x y : Nat) (h2 : 2 ≤ n) (hn : n ≤ c) (_hm : c ≤ maxLen) (hx : x = 3 ∨ x = 4) (hy8 : y < 256) (w : World) (h0 : w.cell? ⟨b, o, none⟩ = some (.int .u8 x)) (h1 : w.cell? ⟨b, o + 1, none⟩ = some (.int .u8 y)) (hb : b < w.heap.size) :
    Calls Tryd.prog 18 #[.slice (some ⟨b, o, none⟩) n c] w fun e w' => e = rawTuple (x, y, ⟨#[]⟩, 2) ∧ Below w.heap.size w w' := by
  have hc1 : ¬ c = 1 := by omega
  have hw : wrap64 (y : Int) = y := by unfold wrap64; omega
  rcases hx with rfl | rfl
  · go_enter Tryd.func18, Tryd.ntmps18
    go_wp2
    go_quiet (fail)
    go_wp2
    exact bodyPost_ret (v := .tuple #[.agg #[.int .i64 3, .int .i64 y, .string ⟨#[]⟩], .int .i64 2]) (by simp [results, Tryd.results18, go_sem]) rfl ⟨rfl, ((((below_drewN (below_new w _) _).setCell (p := ⟨_, 0, none⟩) (Nat.le_refl _) _).setCell (p := ⟨_, 1, none⟩) (Nat.le_refl _) _).setCell (p := ⟨_, 2, none⟩) (Nat.le_refl _) _)⟩
  · go_enter Tryd.func18, Tryd.ntmps18
    go_wp2
    go_quiet (fail)
    go_wp2
    exact bodyPost_ret (v := .tuple #[.agg #[.int .i64 4, .int .i64 y, .string ⟨#[]⟩], .int .i64 2]) (by simp [results, Tryd.results18, go_sem]) rfl ⟨rfl, ((((below_drewN (below_new w _) _).setCell (p := ⟨_, 0, none⟩) (Nat.le_refl _) _).setCell (p := ⟨_, 1, none⟩) (Nat.le_refl _) _).setCell (p := ⟨_, 2, none⟩) (Nat.le_refl _) _)⟩

set_option maxHeartbeats 1000000 in
theorem readAny_none (b o c n x y : Nat) (h2 : 2 ≤ n) (hn : n ≤ c) (_hm : c ≤ maxLen) (hx8 : x < 256) (hy8 : y < 256) (w : World) (h0 : w.cell? ⟨b, o, none⟩ = some (.int .u8 x)) (h1 : w.cell? ⟨b, o + 1, none⟩ = some (.int .u8 y)) (hb : b < w.heap.size)
    (hx : (x = 1 ∧ n < 9) ∨ (x = 2 ∧ n < y + 2) ∨ 4 < x) :
    Calls Tryd.prog 18 #[.slice (some ⟨b, o, none⟩) n c] w fun e w' => e = rawTuple (0, 0, ⟨#[]⟩, 0) ∧ Below w.heap.size w w' := by
  have hc1 : ¬ c = 1 := by omega
  have hw : wrap64 (y : Int) = y := by unfold wrap64; omega
  have hw' : wrap64 (x : Int) = x := by unfold wrap64; omega
  rcases hx with ⟨rfl, h9⟩ | ⟨rfl, h9⟩ | h4
  · go_enter Tryd.func18, Tryd.ntmps18
    go_wp2
    go_quiet (fail)
    go_wp2
    exact bodyPost_ret (v := .tuple #[.agg #[.int .i64 0, .int .i64 0, .string ⟨#[]⟩], .int .i64 0]) (by simp [results, Tryd.results18, go_sem]) rfl ⟨rfl, ((((below_drewN (below_new w _) _).setCell (p := ⟨_, 0, none⟩) (Nat.le_refl _) _).setCell (p := ⟨_, 1, none⟩) (Nat.le_refl _) _).setCell (p := ⟨_, 2, none⟩) (Nat.le_refl _) _)⟩
  · go_enter Tryd.func18, Tryd.ntmps18
    go_wp2
    go_quiet (fail)
    go_wp2
    exact bodyPost_ret (v := .tuple #[.agg #[.int .i64 0, .int .i64 0, .string ⟨#[]⟩], .int .i64 0]) (by simp [results, Tryd.results18, go_sem]) rfl ⟨rfl, ((((below_drewN (below_new w _) _).setCell (p := ⟨_, 0, none⟩) (Nat.le_refl _) _).setCell (p := ⟨_, 1, none⟩) (Nat.le_refl _) _).setCell (p := ⟨_, 2, none⟩) (Nat.le_refl _) _)⟩
  · have b0 : ((x : Int) == 0) = false := beq_eq_false_iff_ne.2 (by omega)
    have b1 : ((x : Int) == 1) = false := beq_eq_false_iff_ne.2 (by omega)
    have b2 : ((x : Int) == 2) = false := beq_eq_false_iff_ne.2 (by omega)
    have b3 : ((x : Int) == 3) = false := beq_eq_false_iff_ne.2 (by omega)
    have b4 : ((x : Int) == 4) = false := beq_eq_false_iff_ne.2 (by omega)
    go_enter Tryd.func18, Tryd.ntmps18
    go_wp2
    go_quiet (fail)
    go_wp2
    exact bodyPost_ret (v := .tuple #[.agg #[.int .i64 0, .int .i64 0, .string ⟨#[]⟩], .int .i64 0]) (by simp [results, Tryd.results18, go_sem]) rfl ⟨rfl, ((((below_drewN (below_new w _) _).setCell (p := ⟨_, 0, none⟩) (Nat.le_refl _) _).setCell (p := ⟨_, 1, none⟩) (Nat.le_refl _) _).setCell (p := ⟨_, 2, none⟩) (Nat.le_refl _) _)⟩

set_option maxHeartbeats 1000000 in
theorem readAny_blank (b o c n : Nat) (h2 : 2 ≤ n) (hn : n ≤ c) (_hm : c ≤ maxLen) (w : World) (h0 : w.cell? ⟨b, o, none⟩ = some (.int .u8 0)) (hb : b < w.heap.size) :
    Calls Tryd.prog 18 #[.slice (some ⟨b, o, none⟩) n c] w fun e w' => e = rawTuple (0, 0, ⟨#[]⟩, 1) ∧ Below w.heap.size w w' := by
  have hc1 : ¬ c = 1 := by omega
  go_enter Tryd.func18, Tryd.ntmps18
  go_wp2
  go_quiet (fail)
  go_wp2
  exact bodyPost_ret (v := .tuple #[.agg #[.int .i64 0, .int .i64 0, .string ⟨#[]⟩], .int .i64 1]) (by simp [results, Tryd.results18, go_sem]) rfl ⟨rfl, ((((below_drewN (below_new w _) _).setCell (p := ⟨_, 0, none⟩) (Nat.le_refl _) _).setCell (p := ⟨_, 1, none⟩) (Nat.le_refl _) _).setCell (p := ⟨_, 2, none⟩) (Nat.le_refl _) _)⟩

end Go.Proofs.YtaojlcgcghdlmaaDoor
