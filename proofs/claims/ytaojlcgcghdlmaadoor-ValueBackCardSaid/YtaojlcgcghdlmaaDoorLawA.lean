/- The document's own example, run. -/
import Derived.Test.YtaojlcgcghdlmaaDoorValI
namespace Go.Proofs.YtaojlcgcghdlmaaDoor
open Go.RowKit

theorem rd319 : readV [3, 1, 9] = (3, 1, ⟨#[]⟩, 2, 0) := by simp [readV, readRaw, rightB]
theorem show5 : showB 1 5 ⟨#[]⟩ = ⟨#[53]⟩ := by
  have h : Lib.itoa 5 = [53] := by rw [Lib.itoa, if_neg (by omega), show (5 : Int).toNat = 5 from rfl, Lib.decDigits_one (by omega)]; rfl
  simp [showB, rightB, h]

theorem num_any (n : Int) (w : World) : Calls Tryd.prog 17 #[.int .i64 n] w fun e w' => e = .returned (.int .i64 n) ∧ w = w' := by
  go_enter Tryd.func17, Tryd.ntmps17
  go_wp2
  go_ret
  exact ⟨rfl, rfl⟩

set_option maxHeartbeats 1000000 in
theorem alive_any (w : World) (hg : Glob w) : Calls Tryd.prog 6 #[] w fun e w' => e = .returned (.bool true) ∧ Below w.heap.size w w' := by
  have hs : BySl (w.alloc (.cells #[.int .u8 3, .int .u8 1, .int .u8 9] 5)) (w.heap.size + 1) (.slice (some ⟨w.heap.size, 0, none⟩) 3 3) [3, 1, 9] :=
    BySl.of (by simp) (by omega) (fun i hi => by
      rcases (show i = 0 ∨ i = 1 ∨ i = 2 by simp at hi; omega) with rfl | rfl | rfl <;> go_simp <;> rfl)
  have hr : Calls Tryd.prog 7 #[.slice (some ⟨w.heap.size, 0, none⟩) 3 3] (w.alloc (.cells #[.int .u8 3, .int .u8 1, .int .u8 9] 5))
      fun e w' => e = .returned (.tuple #[.agg #[.int .i64 3, .int .i64 1, .string ⟨#[]⟩], .int .i64 2, .int .i64 0]) ∧ Below (w.alloc (.cells #[.int .u8 3, .int .u8 1, .int .u8 9] 5)).heap.size (w.alloc (.cells #[.int .u8 3, .int .u8 1, .int .u8 9] 5)) w' := by
    have := read_any (w.heap.size + 1) _ _ _ hs (by simp) (fun A n c h => by cases h; unfold maxLen; omega)
    rw [rd319] at this
    exact this
  have hsh : ∀ W, Glob W → Calls Tryd.prog 13 #[.agg #[.int .i64 1, .int .i64 5, .string ⟨#[]⟩]] W fun e w' => e = .returned (.string ⟨#[53]⟩) ∧ Below W.heap.size W w' := by
    intro W hW
    have := show_any 1 5 ⟨#[]⟩ W hW (by omega) (by omega)
    rw [show5] at this
    exact this
  have HR := Lib.hid hr
  have HS := Lib.hid hsh
  clear hr hsh hs
  go_enter Tryd.func6, Tryd.ntmps6
  go_wp2_with (first | (go_at_call 7; (refine HR.out.mono ?_); rintro e w1 ⟨rfl, hb1⟩; have hg2 := ((hg.alloc _).below hb1).alloc (.cells #[.int .i64 3, .int .i64 1, .string ⟨#[]⟩] 23)) | (go_at_call 13; (refine (HS.out _ hg2).mono ?_); rintro e w2 ⟨rfl, hb2⟩; obtain ⟨c0, c1, c2⟩ := vbox hb2) | (go_at_call 17; (with_reducible refine (num_any _ _).mono ?_); rintro e w3 ⟨rfl, rfl⟩))
  go_ret
  exact ⟨rfl, ((below_box hb1).trans ((below_new w1 _).mono (Nat.le_of_lt (lt_new hb1)))).trans (hb2.mono (by simp; have := lt_new hb1; omega))⟩

end Go.Proofs.YtaojlcgcghdlmaaDoor
