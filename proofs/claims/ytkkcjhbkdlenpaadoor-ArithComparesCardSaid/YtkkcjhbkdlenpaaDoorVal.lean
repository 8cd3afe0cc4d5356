/- The walks of package value and of the reference's values. -/
import Derived.Test.YtkkcjhbkdlenpaaDoorProg
import Derived.Test.YtkkcjhbkdlenpaaDoorBase
import Derived.Test.YtkkcjhbkdlenpaaDoorValP
import Derived.Test.YtkkcjhbkdlenpaaDoorShelf
import Derived.Deep.RegionHeld3
namespace Go.Proofs.YtkkcjhbkdlenpaaDoor
open Go.RowKit

set_option maxHeartbeats 400000 in
theorem right_any (k n : Int) (s : ByteArray) (w : World) :
    Calls Tryd.prog 16 #[.agg #[.int .i64 k, .int .i64 n, .string s]] w fun e w' => e = .returned (.bool (rightB k n s)) ∧ Below w.heap.size w w' := by
  go_enter Tryd.func16, Tryd.ntmps16
  go_wp2
  all_goals
    go_ret
    refine ⟨ret_bool ?_, below_new _ _⟩
    simp_all [rightB]
  all_goals (intros; omega)

set_option maxHeartbeats 400000 in
theorem rrightv_any (k n : Int) (s : ByteArray) (w : World) :
    Calls Tryd.prog 14 #[.agg #[.int .i64 k, .int .i64 n, .string s]] w fun e w' => e = .returned (.bool (rightB k n s)) ∧ Below w.heap.size w w' := by
  go_enter Tryd.func14, Tryd.ntmps14
  go_wp2
  all_goals
    go_ret
    refine ⟨ret_bool ?_, below_new _ _⟩
    simp_all [rightB]
  all_goals (intros; omega)

set_option maxHeartbeats 400000 in
theorem cmpInt_any (a b : Int) (w : World) :
    Calls Tryd.prog 37 #[.int .i64 a, .int .i64 b] w fun e w' => e = .returned (.int .i64 (cmpI a b)) ∧ w = w' := by
  go_enter Tryd.func37, Tryd.ntmps37
  go_wp2
  all_goals
    go_ret
    refine ⟨ret_int ?_, rfl⟩
    simp only [cmpI]
    (repeat' split) <;> omega

set_option maxHeartbeats 400000 in
theorem cmpStr_any (a b : ByteArray) (w : World) :
    Calls Tryd.prog 38 #[.string a, .string b] w fun e w' => e = .returned (.int .i64 (cmpS a b)) ∧ w = w' := by
  go_enter Tryd.func38, Tryd.ntmps38
  go_wp2
  all_goals
    go_ret
    refine ⟨ret_int ?_, rfl⟩
    simp_all [cmpS]

/-- The first of three numbers that is not 0. -/
def or3 (x y z : Int) : Int := if x ≠ 0 then x else if y ≠ 0 then y else z

set_option maxHeartbeats 400000 in
theorem or3_any (b o : Nat) (x y z : Int) (w : World) (h0 : w.cell? ⟨b, o, none⟩ = some (.int .i64 x)) (h1 : w.cell? ⟨b, o + 1, none⟩ = some (.int .i64 y)) (h2 : w.cell? ⟨b, o + 2, none⟩ = some (.int .i64 z)) :
    Calls Tryd.prog 36 #[.slice (some ⟨b, o, none⟩) 3 3] w fun e w' => e = .returned (.int .i64 (or3 x y z)) ∧ w = w' := by
  go_enter Tryd.func36, Tryd.ntmps36
  go_wp2
  go_loop [8] (fun i => ∃ k : Nat, k ≤ 3 ∧ i = .int .i64 k ∧ (0 < k → x = 0) ∧ (1 < k → y = 0) ∧ (2 < k → z = 0)) (fun i => 3 - (intOf i).toNat)
  case atStart => exact ⟨0, by omega, rfl, by omega, by omega, by omega⟩
  case round =>
    obtain ⟨k, hk, rfl, e0, e1, e2⟩ := hrel
    rcases (show k = 0 ∨ k = 1 ∨ k = 2 ∨ k = 3 from by omega) with rfl | rfl | rfl | rfl
    · clear e0 e1 e2
      go_wp2
      · go_ret
        exact ⟨ret_int (by simp_all [or3]), rfl⟩
      · go_round
        case rel => exact ⟨1, by omega, rfl, fun _ => by simpa using ‹(x != 0) = false›, by omega, by omega⟩
        case measure => simp [intOf]
    · have e : x = 0 := e0 (by omega)
      subst e
      clear e0 e1 e2
      go_wp2
      · go_ret
        exact ⟨ret_int (by simp_all [or3]), rfl⟩
      · go_round
        case rel => exact ⟨2, by omega, rfl, fun _ => by simp, fun _ => by simpa using ‹(y != 0) = false›, by omega⟩
        case measure => simp [intOf]
    · have e : x = 0 := e0 (by omega)
      have e' : y = 0 := e1 (by omega)
      subst e e'
      clear e0 e1 e2
      go_wp2
      · go_ret
        exact ⟨ret_int (by simp_all [or3]), rfl⟩
      · go_round
        case rel => exact ⟨3, by omega, rfl, fun _ => by simp, fun _ => by simp, fun _ => by simpa using ‹(z != 0) = false›⟩
        case measure => simp [intOf]
    · have e : x = 0 := e0 (by omega)
      have e' : y = 0 := e1 (by omega)
      have e'' : z = 0 := e2 (by omega)
      subst e e' e''
      clear e0 e1 e2
      go_wp2
      go_ret
      exact ⟨ret_int rfl, rfl⟩

/-- The two halves of a test, as the walk spells them. -/
theorem rightB_of (k n : Int) (s : ByteArray) : rightB k n s = true ∨ rightB k n s = false := by cases rightB k n s <;> simp

end Go.Proofs.YtkkcjhbkdlenpaaDoor
