/- What values are, as plain functions; nothing of the program. -/
import GoSem.Core.Sem
import Derived.Lib.ItoaNum
import Derived.Lib.Small
import Derived.Lib.Strings
import Derived.Test.YtfngpfnbhafmlaaGreatDoorProg
import Derived.Test.YtfngpfnbhafmlaaGreatDoorBase
import Derived.Test.YtfngpfnbhafmlaaGreatDoorShelf
import Derived.Deep.RegionHeld3
import Derived.Test.YtfngpfnbhafmlaaGreatDoorGlob
namespace Go.Proofs.YtfngpfnbhafmlaaGreatDoor
def rightB (k n : Int) (s : ByteArray) : Bool :=
 (k == 0 && n == 0 && s.toList.isEmpty) || (k == 1 && s.toList.isEmpty) || (k == 2 && n == 0 && decide ((s.size : Int) ≤ 200)) ||
  (k == 3 && (n == 0 || n == 1) && s.toList.isEmpty) || (k == 4 && decide (1 ≤ n) && decide (n ≤ 7) && s.toList.isEmpty)
def cmpI (a b : Int) : Int := if a < b then -1 else if b < a then 1 else 0
def cmpS (a b : ByteArray) : Int := if Op.bytesLess a.toList b.toList then -1 else if a.toList == b.toList then 0 else 1
def cmpV (k n : Int) (s : ByteArray) (k' n' : Int) (s' : ByteArray) : Int :=
 if rightB k n s && rightB k' n' s' then (if cmpI k k' ≠ 0 then cmpI k k' else if cmpI n n' ≠ 0 then cmpI n n' else cmpS s s') else 0
theorem bl_lt (x y : List UInt8) : Op.bytesLess x y = decide (x < y) := by
 induction x generalizing y with
 | nil => cases y <;> simp [Op.bytesLess]
 | cons a x ih =>
   cases y with
   | nil => simp [Op.bytesLess]
   | cons b y => simp [Op.bytesLess, ih, List.cons_lt_cons_iff, Bool.decide_or, Bool.decide_and, Bool.beq_eq_decide_eq]
theorem bl_irrefl (l : List UInt8) : Op.bytesLess l l = false := by
 rw [bl_lt]; exact decide_eq_false (List.lt_irrefl l)
theorem ba_ext {a b : ByteArray} (h : a.toList = b.toList) : a = b := by
 rw [Lib.toList_data, Lib.toList_data] at h
 exact ByteArray.ext (Array.toList_inj.1 h)
theorem cmpS_eq {a b : ByteArray} : cmpS a b = 0 ↔ a = b := by
 unfold cmpS
 by_cases h : a = b
 · subst h; simp [bl_irrefl]
 · have : ¬ a.toList = b.toList := fun e => h (ba_ext e)
   simp [this, h]
   split <;> simp
end Go.Proofs.YtfngpfnbhafmlaaGreatDoor
namespace Go.Proofs.YtfngpfnbhafmlaaGreatDoor
open Go.RowKit
set_option maxHeartbeats 400000 in
theorem right_any (k n : Int) (s : ByteArray) (w : World) :
 Calls Tryz.prog 43 #[.agg #[.int .i64 k, .int .i64 n, .string s]] w fun e w' => e = .returned (.bool (rightB k n s)) ∧ Below w.heap.size w w' := by
 go_enter Tryz.func43, Tryz.ntmps43
 go_wp2
 all_goals
  go_ret
  refine ⟨ret_bool ?_, below_new _ _⟩
  simp_all [rightB]
 all_goals (intros; omega)
set_option maxHeartbeats 400000 in
theorem rrightv_any (k n : Int) (s : ByteArray) (w : World) :
 Calls Tryz.prog 12 #[.agg #[.int .i64 k, .int .i64 n, .string s]] w fun e w' => e = .returned (.bool (rightB k n s)) ∧ Below w.heap.size w w' := by
 go_enter Tryz.func12, Tryz.ntmps12
 go_wp2
 all_goals
  go_ret
  refine ⟨ret_bool ?_, below_new _ _⟩
  simp_all [rightB]
 all_goals (intros; omega)
set_option maxHeartbeats 400000 in
theorem cmpInt_any (a b : Int) (w : World) :
 Calls Tryz.prog 94 #[.int .i64 a, .int .i64 b] w fun e w' => e = .returned (.int .i64 (cmpI a b)) ∧ w = w' := by
 go_enter Tryz.func94, Tryz.ntmps94
 go_wp2
 all_goals
  go_ret
  refine ⟨ret_int ?_, rfl⟩
  simp only [cmpI]
  (repeat' split) <;> omega
set_option maxHeartbeats 400000 in
theorem cmpStr_any (a b : ByteArray) (w : World) :
 Calls Tryz.prog 95 #[.string a, .string b] w fun e w' => e = .returned (.int .i64 (cmpS a b)) ∧ w = w' := by
 go_enter Tryz.func95, Tryz.ntmps95
 go_wp2
 all_goals
  go_ret
  refine ⟨ret_int ?_, rfl⟩
  simp_all [cmpS]
def or3 (x y z : Int) : Int := if x ≠ 0 then x else if y ≠ 0 then y else z
set_option maxHeartbeats 400000 in
theorem or3_any (b o : Nat) (x y z : Int) (w : World) (h0 : w.cell? ⟨b, o, none⟩ = some (.int .i64 x)) (h1 : w.cell? ⟨b, o + 1, none⟩ = some (.int .i64 y)) (h2 : w.cell? ⟨b, o + 2, none⟩ = some (.int .i64 z)) :
 Calls Tryz.prog 93 #[.slice (some ⟨b, o, none⟩) 3 3] w fun e w' => e = .returned (.int .i64 (or3 x y z)) ∧ w = w' := by
 go_enter Tryz.func93, Tryz.ntmps93
 go_wp2
 go_loop [8] (fun i => ∃ k : Nat, k ≤ 3 ∧ i = .int .i64 k ∧ (0 < k → x = 0) ∧ (1 < k → y = 0) ∧ (2 < k → z = 0)) (fun i => 3 - (intOf i).toNat)
 case atStart => exact ⟨0, by omega, rfl, by omega, by omega, by omega⟩
 case round =>
  obtain ⟨k, hk, rfl, e0, e1, e2⟩ := hrel
  rcases (show k = 0 ∨ k = 1 ∨ k = 2 ∨ k = 3 from by omega) with rfl | rfl | rfl | rfl
  · clear e0 e1 e2
    go_wp2
    · go_ret
      exact ⟨ret_int (by simp_all [or3]), rfl⟩
    · go_round
      case rel => exact ⟨1, by omega, rfl, fun _ => by simpa using ‹(x != 0) = false›, by omega, by omega⟩
      case measure => simp [intOf]
  · have e : x = 0 := e0 (by omega)
    subst e
    clear e0 e1 e2
    go_wp2
    · go_ret
      exact ⟨ret_int (by simp_all [or3]), rfl⟩
    · go_round
      case rel => exact ⟨2, by omega, rfl, fun _ => by simp, fun _ => by simpa using ‹(y != 0) = false›, by omega⟩
      case measure => simp [intOf]
  · have e : x = 0 := e0 (by omega)
    have e' : y = 0 := e1 (by omega)
    subst e e'
    clear e0 e1 e2
    go_wp2
    · go_ret
      exact ⟨ret_int (by simp_all [or3]), rfl⟩
    · go_round
      case rel => exact ⟨3, by omega, rfl, fun _ => by simp, fun _ => by simp, fun _ => by simpa using ‹(z != 0) = false›⟩
      case measure => simp [intOf]
  · have e : x = 0 := e0 (by omega)
    have e' : y = 0 := e1 (by omega)
    have e'' : z = 0 := e2 (by omega)
    subst e e' e''
    clear e0 e1 e2
    go_wp2
    go_ret
    exact ⟨ret_int rfl, rfl⟩
end Go.Proofs.YtfngpfnbhafmlaaGreatDoor
namespace Go.Proofs.YtfngpfnbhafmlaaGreatDoor
open Go.RowKit
theorem or3_new (x y z : Int) (w : World) :
 Calls Tryz.prog 93 #[.slice (some ⟨w.heap.size, 0, none⟩) 3 3] (w.alloc (.cells #[.int .i64 x, .int .i64 y, .int .i64 z] 3)).drew
  fun e w' => e = .returned (.int .i64 (or3 x y z)) ∧ (w.alloc (.cells #[.int .i64 x, .int .i64 y, .int .i64 z] 3)).drew = w' :=
 or3_any w.heap.size 0 x y z _ (by go_simp) (by go_simp) (by go_simp)
set_option maxHeartbeats 1000000 in
theorem compare_any (k n : Int) (s : ByteArray) (k' n' : Int) (s' : ByteArray) (w : World) :
 Calls Tryz.prog 48 #[.agg #[.int .i64 k, .int .i64 n, .string s], .agg #[.int .i64 k', .int .i64 n', .string s']] w
  fun e w' => e = .returned (.int .i64 (cmpV k n s k' n' s')) ∧ Below w.heap.size w w' := by
 cases h : rightB k n s
 · go_enter Tryz.func48, Tryz.ntmps48
   go_wp2_with (go_at_call 43; refine (right_any _ _ _ _).mono ?_; rintro e w1 ⟨rfl, hb⟩; obtain ⟨hc, hf⟩ := olds hb; rw [h])
   go_ret
   exact ⟨ret_int (by simp [cmpV, h]), ((below_new w _).trans ((below_new _ _).mono (by simp))).trans (hb.mono (by simp; omega))⟩
 · cases h' : rightB k' n' s'
   · go_enter Tryz.func48, Tryz.ntmps48
     go_wp2_with (first | (go_at_call 43; ((with_reducible refine (right_any k n s _).mono ?_); rintro e w1 ⟨rfl, hb1⟩; obtain ⟨hc1, hf1⟩ := olds hb1; have hz1 := hb1.size; try simp only [World.size_alloc] at hz1; have hl1 : w.heap.size < w1.heap.size := (by omega); have hl2 : w.heap.size + 1 < w1.heap.size := (by omega))) | (go_at_call 43; ((with_reducible refine (right_any k' n' s' _).mono ?_); rintro e w2 ⟨rfl, hb2⟩; obtain ⟨hc2, hf2⟩ := olds hb2; have hz2 := hb2.size)))
     go_ret
     exact ⟨ret_int (by simp [cmpV, h, h']), ((((below_new w _).trans ((below_new _ _).mono (by simp))).trans (hb1.mono (by simp; omega)))).trans (hb2.mono (by omega))⟩
   · go_enter Tryz.func48, Tryz.ntmps48
     go_wp2_with (first | (go_at_call 43; ((with_reducible refine (right_any k n s _).mono ?_); rintro e w1 ⟨rfl, hb1⟩; obtain ⟨hc1, hf1⟩ := olds hb1; have hz1 := hb1.size; try simp only [World.size_alloc] at hz1; have hl1 : w.heap.size < w1.heap.size := (by omega); have hl2 : w.heap.size + 1 < w1.heap.size := (by omega))) | (go_at_call 43; ((with_reducible refine (right_any k' n' s' _).mono ?_); rintro e w2 ⟨rfl, hb2⟩; obtain ⟨hc2, hf2⟩ := olds hb2; have hz2 := hb2.size)))
     have c0 : w2.cell? ⟨w.heap.size, 0, none⟩ = some (.int .i64 k) := by rw [hc2 _ _ (by omega), hc1 _ _ (by simp; omega)]; go_simp
     have c1 : w2.cell? ⟨w.heap.size, 1, none⟩ = some (.int .i64 n) := by rw [hc2 _ _ (by omega), hc1 _ _ (by simp; omega)]; go_simp
     have c2 : w2.cell? ⟨w.heap.size, 2, none⟩ = some (.string s) := by rw [hc2 _ _ (by omega), hc1 _ _ (by simp; omega)]; go_simp
     have d0 : w2.cell? ⟨w.heap.size + 1, 0, none⟩ = some (.int .i64 k') := by rw [hc2 _ _ (by omega), hc1 _ _ (by simp)]; go_simp
     have d1 : w2.cell? ⟨w.heap.size + 1, 1, none⟩ = some (.int .i64 n') := by rw [hc2 _ _ (by omega), hc1 _ _ (by simp)]; go_simp
     have d2 : w2.cell? ⟨w.heap.size + 1, 2, none⟩ = some (.string s') := by rw [hc2 _ _ (by omega), hc1 _ _ (by simp)]; go_simp
     have hbw : Below w.heap.size w w2 := ((((below_new w _).trans ((below_new _ _).mono (by simp))).trans (hb1.mono (by simp; omega)))).trans (hb2.mono (by omega))
     clear hc1 hf1 hc2 hf2 hb1 hb2 hz1 hz2 hl1 hl2
     go_region_held3 (fun W => W.cell? ⟨w.heap.size, 0, none⟩ = some (.int .i64 k) ∧ W.cell? ⟨w.heap.size, 1, none⟩ = some (.int .i64 n) ∧ W.cell? ⟨w.heap.size, 2, none⟩ = some (.string s) ∧ W.cell? ⟨w.heap.size + 1, 0, none⟩ = some (.int .i64 k') ∧ W.cell? ⟨w.heap.size + 1, 1, none⟩ = some (.int .i64 n') ∧ W.cell? ⟨w.heap.size + 1, 2, none⟩ = some (.string s') ∧ Below w.heap.size w W)
      (first | exact ⟨c0, c1, c2, d0, d1, d2, hbw.drew⟩ | (go_split_ands; refine ⟨?_, ?_, ?_, ?_, ?_, ?_, ?_⟩ <;> first | assumption | exact (hbw.alloc hbw.size _).drew | (go_keep)))
      (first | (go_at_call 94; (with_reducible refine (cmpInt_any _ _ _).mono ?_); rintro e w' ⟨rfl, rfl⟩) | (go_at_call 95; (with_reducible refine (cmpStr_any _ _ _).mono ?_); rintro e w' ⟨rfl, rfl⟩) | (go_at_call 93; (with_reducible refine (or3_new _ _ _ _).mono ?_); rintro e w' ⟨rfl, rfl⟩))
     go_wp2
     go_ret
     exact ⟨ret_int (by simp only [cmpV, h, h', or3, Bool.and_self, if_true]), (hbw.alloc hbw.size _).drew⟩
end Go.Proofs.YtfngpfnbhafmlaaGreatDoor
namespace Go.Proofs.YtfngpfnbhafmlaaGreatDoor
open Go.RowKit
def showB (k n : Int) (s : ByteArray) : ByteArray :=
 if rightB k n s then (if k = 1 then ⟨(Lib.itoa n).toArray⟩ else if k = 2 then s else if k = 3 then (if n = 0 then ⟨#[70, 65, 76, 83, 69]⟩ else ⟨#[84, 82, 85, 69]⟩) else if k = 4 then errName n.toNat else ⟨#[]⟩) else ⟨#[]⟩
set_option maxHeartbeats 400000 in
theorem showBool_any (n : Int) (w : World) :
 Calls Tryz.prog 125 #[.int .i64 n] w fun e w' => e = .returned (.string (if n = 0 then ⟨#[70, 65, 76, 83, 69]⟩ else ⟨#[84, 82, 85, 69]⟩)) ∧ w = w' := by
 go_enter Tryz.func125, Tryz.ntmps125
 go_wp2
 all_goals
  go_ret
  refine ⟨ret_str ?_, rfl⟩
  simp_all
set_option maxHeartbeats 400000 in
theorem clone_any (s : ByteArray) (w : World) (hs : s.size ≤ 281474976710656) :
 Calls Tryz.prog 18 #[.string s] w fun e w' => e = .returned (.string s) ∧ Below w.heap.size w w' := by
 go_enter Tryz.func18, Tryz.ntmps18
 go_wp2_with (go_at_call 31; ((with_reducible refine (Tryz.stringslite_Clone _ _ hs).mono ?_); rintro e w1 ⟨rfl, hb⟩))
 go_ret
 exact ⟨rfl, hb⟩
theorem itoa_any (n : Int) (h0 : -9223372036854775808 ≤ n) (h1 : n ≤ 9223372036854775807) (w : World) (hg : Glob w) :
 Calls Tryz.prog 124 #[.int .i64 n] w fun e w' => e = .returned (.string ⟨(Lib.itoa n).toArray⟩) ∧ Below w.heap.size w w' :=
 (Tryz.strconv_Itoa n h0 h1 w hg.pow).mono fun e w' ⟨he, k, os, hw⟩ => ⟨he, by subst hw; exact Lib.below_grow _ _ (Nat.le_refl _) _ _⟩
theorem right_cases {k n : Int} {s : ByteArray} (h : rightB k n s = true) :
 (k = 0 ∧ n = 0) ∨ k = 1 ∨ (k = 2 ∧ n = 0 ∧ s.size ≤ 200) ∨ (k = 3 ∧ (n = 0 ∨ n = 1)) ∨ (k = 4 ∧ (n = 1 ∨ n = 2 ∨ n = 3 ∨ n = 4 ∨ n = 5 ∨ n = 6 ∨ n = 7)) := by
 simp only [rightB, Bool.or_eq_true, Bool.and_eq_true, beq_iff_eq, decide_eq_true_eq] at h
 rcases h with (((h | h) | h) | h) | h
 · exact .inl h.1
 · exact .inr (.inl h.1)
 · exact .inr (.inr (.inl ⟨h.1.1, h.1.2, by omega⟩))
 · exact .inr (.inr (.inr (.inl ⟨h.1.1, h.1.2⟩)))
 · exact .inr (.inr (.inr (.inr ⟨h.1.1.1, by omega⟩)))
set_option maxHeartbeats 1000000 in
theorem show_any (k n : Int) (s : ByteArray) (w : World) (hg : Glob w) (h0 : -9223372036854775808 ≤ n) (h1 : n ≤ 9223372036854775807) :
 Calls Tryz.prog 92 #[.agg #[.int .i64 k, .int .i64 n, .string s]] w
  fun e w' => e = .returned (.string (showB k n s)) ∧ Below w.heap.size w w' := by
 cases h : rightB k n s
 · go_enter Tryz.func92, Tryz.ntmps92
   go_wp2_with (go_at_call 43; ((with_reducible refine (right_any k n s _).mono ?_); rintro e w1 ⟨rfl, hb1⟩))
   go_ret
   exact ⟨ret_str (by simp [showB, h]), below_box hb1⟩
 · rcases right_cases h with ⟨rfl, rfl⟩ | rfl | ⟨rfl, rfl, hl⟩ | ⟨rfl, hn⟩ | ⟨rfl, hn⟩
   · go_enter Tryz.func92, Tryz.ntmps92
     go_wp2_with (first | (go_at_call 43; ((with_reducible refine (right_any _ _ s _).mono ?_); rintro e w1 ⟨rfl, hb1⟩; obtain ⟨c0, c1, c2⟩ := vbox hb1; have hg1 := (hg.alloc _).below hb1)))
     go_ret
     exact ⟨ret_str (by simp [showB, h]), below_box hb1⟩
   · go_enter Tryz.func92, Tryz.ntmps92
     go_wp2_with (first | (go_at_call 43; ((with_reducible refine (right_any _ _ s _).mono ?_); rintro e w1 ⟨rfl, hb1⟩; obtain ⟨c0, c1, c2⟩ := vbox hb1; have hg1 := (hg.alloc _).below hb1)) | (go_at_call 124; ((with_reducible refine (itoa_any n h0 h1 _ hg1).mono ?_); rintro e w2 ⟨rfl, hb2⟩)))
     go_ret
     exact ⟨ret_str (by simp [showB, h]), (below_box hb1).trans (hb2.mono (Nat.le_of_lt (lt_new hb1)))⟩
   · go_enter Tryz.func92, Tryz.ntmps92
     go_wp2_with (first | (go_at_call 43; ((with_reducible refine (right_any _ _ s _).mono ?_); rintro e w1 ⟨rfl, hb1⟩; obtain ⟨c0, c1, c2⟩ := vbox hb1; have hg1 := (hg.alloc _).below hb1)) | (go_at_call 18; ((with_reducible refine (clone_any s _ (by omega)).mono ?_); rintro e w2 ⟨rfl, hb2⟩)))
     go_ret
     exact ⟨ret_str (by simp [showB, h]), (below_box hb1).trans (hb2.mono (Nat.le_of_lt (lt_new hb1)))⟩
   · rcases hn with rfl | rfl
     all_goals
      go_enter Tryz.func92, Tryz.ntmps92
      go_wp2_with (first | (go_at_call 43; ((with_reducible refine (right_any _ _ s _).mono ?_); rintro e w1 ⟨rfl, hb1⟩; obtain ⟨c0, c1, c2⟩ := vbox hb1; have hg1 := (hg.alloc _).below hb1)) | (go_at_call 125; ((with_reducible refine (showBool_any _ _).mono ?_); rintro e w2 ⟨rfl, rfl⟩)))
      go_ret
      exact ⟨ret_str (by simp [showB, h]), below_box hb1⟩
   · obtain ⟨m, rfl, hm1, hm7⟩ : ∃ m : Nat, n = m ∧ 1 ≤ m ∧ m ≤ 7 := ⟨n.toNat, by omega, by omega, by omega⟩
     clear hn
     go_enter Tryz.func92, Tryz.ntmps92
     go_wp2_with (first | (go_at_call 43; ((with_reducible refine (right_any _ _ s _).mono ?_); rintro e w1 ⟨rfl, hb1⟩; obtain ⟨c0, c1, c2⟩ := vbox hb1; have hn1 := Glob.at ((hg.alloc _).below hb1) m hm1 hm7)))
     go_ret
     exact ⟨ret_str (by simp [showB, h]), below_box hb1⟩
end Go.Proofs.YtfngpfnbhafmlaaGreatDoor
