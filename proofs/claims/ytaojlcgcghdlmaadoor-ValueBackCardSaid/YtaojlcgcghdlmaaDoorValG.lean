/- Reading a value: the whole call. -/
import Derived.Test.YtaojlcgcghdlmaaDoorValF
namespace Go.Proofs.YtaojlcgcghdlmaaDoor
open Go.RowKit

theorem readAny_any (B : Nat) (v : Value) (l : List UInt8) (w : World) (h : BySl w B v l) (hB : B ≤ w.heap.size) (hm : ∀ A n c, v = .slice A n c → c ≤ maxLen) :
    Calls Tryd.prog 18 #[v] w fun e w' => e = rawTuple (readRaw l) ∧ Below w.heap.size w w' := by
  rcases h.parts with ⟨rfl, A, c, rfl⟩ | ⟨b, o, c, rfl, hpos, hlc, hb, hc⟩
  · exact readAny_nil A c w
  · replace hm := hm _ _ _ rfl
    rcases l with _ | ⟨x, _ | ⟨y, r⟩⟩
    · exact absurd hpos (by simp)
    · clear hpos
      have h0 := hc 0 (by simp)
      have hx := x.toNat_lt
      have e : readRaw [x] = oneRaw x.toNat := by
        unfold readRaw oneRaw
        (repeat' split) <;> first | rfl | omega | simp_all
      rw [e]
      exact readAny_one b o c x.toNat (by omega) w h0 (by omega)
    · clear hpos
      have h0 : w.cell? ⟨b, o, none⟩ = some (.int .u8 x.toNat) := hc 0 (by simp)
      have h1 : w.cell? ⟨b, o + 1, none⟩ = some (.int .u8 y.toNat) := hc 1 (by simp)
      have hx := x.toNat_lt
      have hy := y.toNat_lt
      have hn : (x :: y :: r).length = r.length + 2 := by simp
      by_cases e0 : x.toNat = 0
      · rw [show readRaw (x :: y :: r) = (0, 0, ⟨#[]⟩, 1) by simp [readRaw, e0]]
        rw [e0] at h0
        exact readAny_blank b o c _ (by omega) hlc hm w h0 (by omega)
      by_cases e1 : x.toNat = 1
      · rw [e1] at h0
        by_cases h8 : 8 ≤ (y :: r).length
        · rw [show readRaw (x :: y :: r) = (1, wrap64 (beNat ((y :: r).take 8)), ⟨#[]⟩, 9) by rw [readRaw, if_neg e0, if_pos e1, if_pos h8]]
          refine readAny_num b o c _ (by simp at h8 ⊢; omega) hlc hm ((y :: r).take 8) (by rw [List.length_take]; omega) w h0 (fun i hi => ?_) (by omega)
          have hi' : i < (y :: r).length := by rw [List.length_take] at hi; omega
          have := hc (i + 1) (by simp at hi' ⊢; omega)
          rw [List.getElem_cons_succ] at this
          rw [List.getElem_take, show o + 1 + i = o + (i + 1) from by omega]
          exact this
        · rw [show readRaw (x :: y :: r) = (0, 0, ⟨#[]⟩, 0) by rw [readRaw, if_neg e0, if_pos e1, if_neg h8]]
          exact readAny_none b o c _ 1 y.toNat (by omega) hlc hm (by omega) (by omega) w h0 h1 (by omega) (.inl ⟨rfl, by simp at h8 ⊢; omega⟩)
      by_cases e2 : x.toNat = 2
      · rw [e2] at h0
        by_cases hl : y.toNat ≤ r.length
        · rw [show readRaw (x :: y :: r) = (2, 0, ⟨(r.take y.toNat).toArray⟩, 2 + (y.toNat : Int)) by rw [readRaw, if_neg e0, if_neg e1, if_pos e2]; simp only [if_pos hl]]
          refine readAny_text b o c _ y.toNat (by omega) hlc hm (by omega) (by omega) (r.take y.toNat) (by rw [List.length_take]; omega) w h0 h1 (fun i hi => ?_) (by omega)
          have hi' : i < r.length := by rw [List.length_take] at hi; omega
          have := hc (i + 2) (by simp; omega)
          rw [List.getElem_take, Nat.add_comm 2 i]
          exact this
        · rw [show readRaw (x :: y :: r) = (0, 0, ⟨#[]⟩, 0) by rw [readRaw, if_neg e0, if_neg e1, if_pos e2]; simp only [if_neg hl]]
          exact readAny_none b o c _ 2 y.toNat (by omega) hlc hm (by omega) (by omega) w h0 h1 (by omega) (.inr (.inl ⟨rfl, by omega⟩))
      by_cases e3 : x.toNat = 3 ∨ x.toNat = 4
      · rw [show readRaw (x :: y :: r) = ((x.toNat : Int), (y.toNat : Int), (⟨#[]⟩ : ByteArray), (2 : Int)) from by rw [readRaw, if_neg e0, if_neg e1, if_neg e2, if_pos e3]]
        exact readAny_pair b o c _ x.toNat y.toNat (by omega) hlc hm e3 (by omega) w h0 h1 (by omega)
      · rw [show readRaw (x :: y :: r) = (0, 0, ⟨#[]⟩, 0) by rw [readRaw, if_neg e0, if_neg e1, if_neg e2, if_neg e3]]
        exact readAny_none b o c _ x.toNat y.toNat (by omega) hlc hm (by omega) (by omega) w h0 h1 (by omega) (.inr (.inr (by omega)))

/-- What bytes begin with: kind, number, text, how many bytes, error. -/
def readV (l : List UInt8) : Int × Int × ByteArray × Int × Int :=
  if (readRaw l).2.2.2 = 0 then (0, 0, ⟨#[]⟩, 0, 2)
  else if rightB (readRaw l).1 (readRaw l).2.1 (readRaw l).2.2.1 then ((readRaw l).1, (readRaw l).2.1, (readRaw l).2.2.1, (readRaw l).2.2.2, 0)
  else (0, 0, ⟨#[]⟩, 0, 2)
def readTuple (x : Int × Int × ByteArray × Int × Int) : Ending := .returned (.tuple #[.agg #[.int .i64 x.1, .int .i64 x.2.1, .string x.2.2.1], .int .i64 x.2.2.2.1, .int .i64 x.2.2.2.2])

set_option maxHeartbeats 1000000 in
theorem read_any (B : Nat) (v : Value) (l : List UInt8) (w : World) (h : BySl w B v l) (hB : B ≤ w.heap.size) (hm : ∀ A n c, v = .slice A n c → c ≤ maxLen) :
    Calls Tryd.prog 7 #[v] w fun e w' => e = readTuple (readV l) ∧ Below w.heap.size w w' := by
  have hcall : ∀ W, Below w.heap.size w W → Calls Tryd.prog 18 #[v] W fun e w' => e = rawTuple (readRaw l) ∧ Below W.heap.size W w' := fun W hW =>
    readAny_any B v l W (h.on (hW.mono hB)) (Nat.le_trans hB hW.size) hm
  have hr : readV l = readV l := rfl
  conv at hr => rhs; unfold readV
  obtain ⟨⟨k, n, s, z⟩, hx⟩ : ∃ x, x = readRaw l := ⟨_, rfl⟩
  rw [← hx] at hcall hr
  simp only at hr
  have hcall' : ∀ W, Below w.heap.size w W → Calls Tryd.prog 18 #[v] W fun e w' => e = .returned (.tuple #[.agg #[.int .i64 k, .int .i64 n, .string s], .int .i64 z]) ∧ Below W.heap.size W w' := hcall
  have HC := Lib.hid hcall'
  clear hcall'
  rw [hr]
  clear hx hr hcall h hm
  by_cases hz : z = 0
  · subst hz
    simp only [if_true]
    go_enter Tryd.func7, Tryd.ntmps7
    go_wp2_with (first | (go_at_call 18; (refine (HC.out _ (below_new w _)).mono ?_); rintro e w1 ⟨rfl, hb1⟩; obtain ⟨c0, c1, c2⟩ := vbox hb1; obtain ⟨f0, f1, f2⟩ := vfree hb1; have hlt := lt_new hb1))
    exact bodyPost_ret (v := .tuple #[.agg #[.int .i64 0, .int .i64 0, .string ⟨#[]⟩], .int .i64 0, .int .i64 2]) (by simp [results, Tryd.results7, go_sem, hlt, c0, c1, c2]) rfl ⟨rfl, ((((below_box hb1).setCell (p := ⟨_, 0, none⟩) (Nat.le_refl _) _).setCell (p := ⟨_, 1, none⟩) (Nat.le_refl _) _).setCell (p := ⟨_, 2, none⟩) (Nat.le_refl _) _).alloc (by simp; have := (below_box hb1).size; omega) _⟩
  · have hz' : (z == 0) = false := beq_eq_false_iff_ne.2 hz
    rw [if_neg hz]
    clear hz
    cases h : rightB k n s
    · simp only [Bool.false_eq_true, if_false]
      go_enter Tryd.func7, Tryd.ntmps7
      go_wp2_with (first | (go_at_call 18; (refine (HC.out _ (below_new w _)).mono ?_); rintro e w1 ⟨rfl, hb1⟩; obtain ⟨c0, c1, c2⟩ := vbox hb1; obtain ⟨f0, f1, f2⟩ := vfree hb1; have hlt := lt_new hb1) | (go_at_call 9; ((with_reducible refine (right_any k n s _).mono ?_); rintro e w2 ⟨rfl, hb2⟩; obtain ⟨d0, d1, d2⟩ := vbox hb2; have hk := vkeep hb1 hb2; obtain ⟨e0, e1, e2, g0, g1, g2⟩ := hk)))
      exact bodyPost_ret (v := .tuple #[.agg #[.int .i64 0, .int .i64 0, .string ⟨#[]⟩], .int .i64 0, .int .i64 2]) (by simp [results, Tryd.results7, go_sem, e0, e1, e2]) rfl ⟨rfl, (((((below_box hb1).trans ((below_box hb2).mono (Nat.le_of_lt hlt))).setCell (p := ⟨_, 0, none⟩) (Nat.le_refl _) _).setCell (p := ⟨_, 1, none⟩) (Nat.le_refl _) _).setCell (p := ⟨_, 2, none⟩) (Nat.le_refl _) _)⟩
    · simp only [if_true]
      go_enter Tryd.func7, Tryd.ntmps7
      go_wp2_with (first | (go_at_call 18; (refine (HC.out _ (below_new w _)).mono ?_); rintro e w1 ⟨rfl, hb1⟩; obtain ⟨c0, c1, c2⟩ := vbox hb1; obtain ⟨f0, f1, f2⟩ := vfree hb1; have hlt := lt_new hb1) | (go_at_call 9; ((with_reducible refine (right_any k n s _).mono ?_); rintro e w2 ⟨rfl, hb2⟩; obtain ⟨d0, d1, d2⟩ := vbox hb2; have hk := vkeep hb1 hb2; obtain ⟨e0, e1, e2, g0, g1, g2⟩ := hk)))
      exact bodyPost_ret (v := .tuple #[.agg #[.int .i64 k, .int .i64 n, .string s], .int .i64 z, .int .i64 0]) (by simp [results, Tryd.results7, go_sem, e0, e1, e2]) rfl ⟨rfl, (((((below_box hb1).trans ((below_box hb2).mono (Nat.le_of_lt hlt))).setCell (p := ⟨_, 0, none⟩) (Nat.le_refl _) _).setCell (p := ⟨_, 1, none⟩) (Nat.le_refl _) _).setCell (p := ⟨_, 2, none⟩) (Nat.le_refl _) _)⟩

end Go.Proofs.YtaojlcgcghdlmaaDoor
