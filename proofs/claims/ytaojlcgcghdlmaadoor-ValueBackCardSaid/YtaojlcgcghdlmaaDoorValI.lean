/- Reading a value: the reference, the whole call. -/
import Derived.Test.YtaojlcgcghdlmaaDoorValH
namespace Go.Proofs.YtaojlcgcghdlmaaDoor
open Go.RowKit

set_option maxHeartbeats 1000000 in
theorem rread_text (b o c n y : Nat) (h2 : 2 ≤ n) (hn : n ≤ c) (hm : c ≤ maxLen) (hy : y + 2 ≤ n) (hy8 : y < 256) (l : List UInt8) (hl : l.length = y) (w : World) (h0 : w.cell? ⟨b, o, none⟩ = some (.int .u8 2)) (h1 : w.cell? ⟨b, o + 1, none⟩ = some (.int .u8 y))
    (hc : ∀ i (h : i < l.length), w.cell? ⟨b, o + (2 + i), none⟩ = some (.int .u8 l[i].toNat)) (hb : b < w.heap.size) :
    Calls Tryd.prog 8 #[.slice (some ⟨b, o, none⟩) n c] w fun e w' => e = readTuple (if rightB 2 0 ⟨l.toArray⟩ then (2, 0, ⟨l.toArray⟩, 2 + (y : Int), 0) else (0, 0, ⟨#[]⟩, 0, 2)) ∧ Below w.heap.size w w' := by
  unfold maxLen at hm
  have hn0 : ((n : Int) == 0) = false := beq_eq_false_iff_ne.2 (by omega)
  have hw : wrap64 (y : Int) = y := by unfold wrap64; omega
  have hcv : ∀ (A cap : Nat), (A = o + 2 ∨ y = 0) → (convert 24 9 (.slice (some ⟨b, A, none⟩) y cap)).run Tryd.prog ((w.alloc (.cells #[.int .i64 0, .int .i64 0, .string ⟨#[]⟩] 23)).alloc (.cells #[.int .i64 2, .int .i64 0, .string ⟨#[]⟩] 23)) = .ok (.string ⟨l.toArray⟩) ((w.alloc (.cells #[.int .i64 0, .int .i64 0, .string ⟨#[]⟩] 23)).alloc (.cells #[.int .i64 2, .int .i64 0, .string ⟨#[]⟩] 23)) := by
    intro A cap hA
    rw [← hl]
    refine run_convert_bytes_back _ 24 9 5 ⟨b, A, none⟩ cap l Tryd.underlying24 Tryd.underlying5 Tryd.underlying9 (fun j hj => ?_)
    rcases hA with rfl | h
    · rw [add_plain, show o + 2 + j = o + (2 + j) from by omega, ← hc j hj]
      exact ((below_new w _).alloc (by simp) _).cell (p := ⟨b, o + (2 + j), none⟩) hb
    · omega
  by_cases hc2 : c = 2
  · obtain rfl : n = 2 := by omega
    obtain rfl : y = 0 := by omega
    subst hc2
    have hcw := hcv o 0 (.inr rfl)
    have hl0 : l = [] := List.eq_nil_of_length_eq_zero hl
    subst hl0
    clear hl hc hcv
    have hr : rightB 2 0 ⟨([] : List UInt8).toArray⟩ = true := by simp [rightB, ByteArray.size]
    rw [if_pos hr]
    go_enter Tryd.func8, Tryd.ntmps8
    go_wp2_with (first | (go_at_call 10; ((with_reducible refine (rrightv_any 2 0 ⟨([] : List UInt8).toArray⟩ _).mono ?_); rintro e w4 ⟨rfl, hb4⟩; have e0 : w4.cell? ⟨w.heap.size, 0, none⟩ = some (.int .i64 0) := kc hb4 (by go_simp); have e1 : w4.cell? ⟨w.heap.size, 1, none⟩ = some (.int .i64 0) := kc hb4 (by go_simp); have e2 : w4.cell? ⟨w.heap.size, 2, none⟩ = some (.string ⟨#[]⟩) := kc hb4 (by go_simp); have f0 : w4.frozen? ⟨w.heap.size, 0, none⟩ = false := kf hb4 (v := .int .i64 0) (by go_simp) (by go_simp); have f1 : w4.frozen? ⟨w.heap.size, 1, none⟩ = false := kf hb4 (v := .int .i64 0) (by go_simp) (by go_simp); have f2 : w4.frozen? ⟨w.heap.size, 2, none⟩ = false := kf hb4 (v := .string ⟨#[]⟩) (by go_simp) (by go_simp); have d0 : w4.cell? ⟨w.heap.size + 1, 0, none⟩ = some (.int .i64 2) := kc hb4 (by go_simp); have d1 : w4.cell? ⟨w.heap.size + 1, 1, none⟩ = some (.int .i64 0) := kc hb4 (by go_simp); have d2 : w4.cell? ⟨w.heap.size + 1, 2, none⟩ = some (.string ⟨([] : List UInt8).toArray⟩) := kc hb4 (by go_simp))))
    have hB4 : Below w.heap.size w w4 := by
      refine Below.trans ?_ (hb4.mono ?_)
      · first | exact (below_new w _).alloc (by simp) _ | exact ((below_new w _).alloc (by simp) _).setCell (by simp) _
      · first | (simp; done) | (simp; omega)
    exact bodyPost_ret (v := .tuple #[.agg #[.int .i64 2, .int .i64 0, .string ⟨([] : List UInt8).toArray⟩], .int .i64 2, .int .i64 0]) (by simp [results, Tryd.results8, go_sem, e0, e1, e2]) rfl ⟨rfl, (((hB4.setCell (p := ⟨_, 0, none⟩) (Nat.le_refl _) _).setCell (p := ⟨_, 1, none⟩) (Nat.le_refl _) _).setCell (p := ⟨_, 2, none⟩) (Nat.le_refl _) _)⟩
  · have hcw := hcv (o + 2) (c - 2) (.inl rfl)
    clear hl hc hcv
    cases hr : rightB 2 0 ⟨l.toArray⟩
    · rw [if_neg (by simp)]
      go_enter Tryd.func8, Tryd.ntmps8
      go_wp2_with (first | (go_at_call 10; ((with_reducible refine (rrightv_any 2 0 ⟨l.toArray⟩ _).mono ?_); rintro e w4 ⟨rfl, hb4⟩; have e0 : w4.cell? ⟨w.heap.size, 0, none⟩ = some (.int .i64 0) := kc hb4 (by go_simp); have e1 : w4.cell? ⟨w.heap.size, 1, none⟩ = some (.int .i64 0) := kc hb4 (by go_simp); have e2 : w4.cell? ⟨w.heap.size, 2, none⟩ = some (.string ⟨#[]⟩) := kc hb4 (by go_simp); have f0 : w4.frozen? ⟨w.heap.size, 0, none⟩ = false := kf hb4 (v := .int .i64 0) (by go_simp) (by go_simp); have f1 : w4.frozen? ⟨w.heap.size, 1, none⟩ = false := kf hb4 (v := .int .i64 0) (by go_simp) (by go_simp); have f2 : w4.frozen? ⟨w.heap.size, 2, none⟩ = false := kf hb4 (v := .string ⟨#[]⟩) (by go_simp) (by go_simp); have d0 : w4.cell? ⟨w.heap.size + 1, 0, none⟩ = some (.int .i64 2) := kc hb4 (by go_simp); have d1 : w4.cell? ⟨w.heap.size + 1, 1, none⟩ = some (.int .i64 0) := kc hb4 (by go_simp); have d2 : w4.cell? ⟨w.heap.size + 1, 2, none⟩ = some (.string ⟨l.toArray⟩) := kc hb4 (by go_simp))))
      have hB4 : Below w.heap.size w w4 := by
        refine Below.trans ?_ (hb4.mono ?_)
        · first | exact (below_new w _).alloc (by simp) _ | exact ((below_new w _).alloc (by simp) _).setCell (by simp) _
        · first | (simp; done) | (simp; omega)
      exact bodyPost_ret (v := .tuple #[.agg #[.int .i64 0, .int .i64 0, .string ⟨#[]⟩], .int .i64 0, .int .i64 2]) (by simp [results, Tryd.results8, go_sem, e0, e1, e2]) rfl ⟨rfl, (((hB4.setCell (p := ⟨_, 0, none⟩) (Nat.le_refl _) _).setCell (p := ⟨_, 1, none⟩) (Nat.le_refl _) _).setCell (p := ⟨_, 2, none⟩) (Nat.le_refl _) _)⟩
    · rw [if_pos rfl]
      go_enter Tryd.func8, Tryd.ntmps8
      go_wp2_with (first | (go_at_call 10; ((with_reducible refine (rrightv_any 2 0 ⟨l.toArray⟩ _).mono ?_); rintro e w4 ⟨rfl, hb4⟩; have e0 : w4.cell? ⟨w.heap.size, 0, none⟩ = some (.int .i64 0) := kc hb4 (by go_simp); have e1 : w4.cell? ⟨w.heap.size, 1, none⟩ = some (.int .i64 0) := kc hb4 (by go_simp); have e2 : w4.cell? ⟨w.heap.size, 2, none⟩ = some (.string ⟨#[]⟩) := kc hb4 (by go_simp); have f0 : w4.frozen? ⟨w.heap.size, 0, none⟩ = false := kf hb4 (v := .int .i64 0) (by go_simp) (by go_simp); have f1 : w4.frozen? ⟨w.heap.size, 1, none⟩ = false := kf hb4 (v := .int .i64 0) (by go_simp) (by go_simp); have f2 : w4.frozen? ⟨w.heap.size, 2, none⟩ = false := kf hb4 (v := .string ⟨#[]⟩) (by go_simp) (by go_simp); have d0 : w4.cell? ⟨w.heap.size + 1, 0, none⟩ = some (.int .i64 2) := kc hb4 (by go_simp); have d1 : w4.cell? ⟨w.heap.size + 1, 1, none⟩ = some (.int .i64 0) := kc hb4 (by go_simp); have d2 : w4.cell? ⟨w.heap.size + 1, 2, none⟩ = some (.string ⟨l.toArray⟩) := kc hb4 (by go_simp))))
      have hB4 : Below w.heap.size w w4 := by
        refine Below.trans ?_ (hb4.mono ?_)
        · first | exact (below_new w _).alloc (by simp) _ | exact ((below_new w _).alloc (by simp) _).setCell (by simp) _
        · first | (simp; done) | (simp; omega)
      exact bodyPost_ret (v := .tuple #[.agg #[.int .i64 2, .int .i64 0, .string ⟨l.toArray⟩], .int .i64 (2 + y), .int .i64 0]) (by simp [results, Tryd.results8, go_sem, e0, e1, e2]) rfl ⟨rfl, (((hB4.setCell (p := ⟨_, 0, none⟩) (Nat.le_refl _) _).setCell (p := ⟨_, 1, none⟩) (Nat.le_refl _) _).setCell (p := ⟨_, 2, none⟩) (Nat.le_refl _) _)⟩

set_option maxHeartbeats 1000000 in
theorem rread_none (b o c n x y : Nat) (h2 : 2 ≤ n) (_hn : n ≤ c) (hx8 : x < 256) (hy8 : y < 256) (w : World) (h0 : w.cell? ⟨b, o, none⟩ = some (.int .u8 x)) (h1 : w.cell? ⟨b, o + 1, none⟩ = some (.int .u8 y)) (hb : b < w.heap.size)
    (hx : (x = 1 ∧ n < 9) ∨ (x = 2 ∧ n < y + 2) ∨ 4 < x) :
    Calls Tryd.prog 8 #[.slice (some ⟨b, o, none⟩) n c] w fun e w' => e = readTuple (0, 0, ⟨#[]⟩, 0, 2) ∧ Below w.heap.size w w' := by
  have hn0 : ((n : Int) == 0) = false := beq_eq_false_iff_ne.2 (by omega)
  have hw : wrap64 (y : Int) = y := by unfold wrap64; omega
  have hw' : wrap64 (x : Int) = x := by unfold wrap64; omega
  rcases hx with ⟨rfl, h9⟩ | ⟨rfl, h9⟩ | h4
  · go_enter Tryd.func8, Tryd.ntmps8
    go_wp2
    exact bodyPost_ret (v := .tuple #[.agg #[.int .i64 0, .int .i64 0, .string ⟨#[]⟩], .int .i64 0, .int .i64 2]) (by simp [results, Tryd.results8, go_sem]) rfl ⟨rfl, (below_new w _).alloc (by simp) _⟩
  · go_enter Tryd.func8, Tryd.ntmps8
    go_wp2
    exact bodyPost_ret (v := .tuple #[.agg #[.int .i64 0, .int .i64 0, .string ⟨#[]⟩], .int .i64 0, .int .i64 2]) (by simp [results, Tryd.results8, go_sem]) rfl ⟨rfl, (below_new w _).alloc (by simp) _⟩
  · have b0 : ((x : Int) == 0) = false := beq_eq_false_iff_ne.2 (by omega)
    have b1 : ((x : Int) == 1) = false := beq_eq_false_iff_ne.2 (by omega)
    have b2 : ((x : Int) == 2) = false := beq_eq_false_iff_ne.2 (by omega)
    have b3 : ((x : Int) == 3) = false := beq_eq_false_iff_ne.2 (by omega)
    have b4 : ((x : Int) == 4) = false := beq_eq_false_iff_ne.2 (by omega)
    have b5 : ((x : Int) != 0) = true := by rw [bne_iff_ne]; omega
    go_enter Tryd.func8, Tryd.ntmps8
    go_wp2
    exact bodyPost_ret (v := .tuple #[.agg #[.int .i64 0, .int .i64 0, .string ⟨#[]⟩], .int .i64 0, .int .i64 2]) (by simp [results, Tryd.results8, go_sem]) rfl ⟨rfl, (below_new w _).alloc (by simp) _⟩

set_option maxHeartbeats 1000000 in
theorem rread_one (b o c x : Nat) (hx8 : x < 256) (hx : x ≠ 0) (w : World) (h0 : w.cell? ⟨b, o, none⟩ = some (.int .u8 x)) (hb : b < w.heap.size) :
    Calls Tryd.prog 8 #[.slice (some ⟨b, o, none⟩) 1 c] w fun e w' => e = readTuple (0, 0, ⟨#[]⟩, 0, 2) ∧ Below w.heap.size w w' := by
  have hw' : wrap64 (x : Int) = x := by unfold wrap64; omega
  have b0 : ((x : Int) != 0) = true := by rw [bne_iff_ne]; omega
  go_enter Tryd.func8, Tryd.ntmps8
  go_wp2
  all_goals exact bodyPost_ret (v := .tuple #[.agg #[.int .i64 0, .int .i64 0, .string ⟨#[]⟩], .int .i64 0, .int .i64 2]) (by simp [results, Tryd.results8, go_sem]) rfl ⟨rfl, (below_new w _).alloc (by simp) _⟩

theorem rread_any (B : Nat) (v : Value) (l : List UInt8) (w : World) (h : BySl w B v l) (hB : B ≤ w.heap.size) (hm : ∀ A n c, v = .slice A n c → c ≤ maxLen) :
    Calls Tryd.prog 8 #[v] w fun e w' => e = readTuple (readV l) ∧ Below w.heap.size w w' := by
  rcases h.parts with ⟨rfl, A, c, rfl⟩ | ⟨b, o, c, rfl, hpos, hlc, hb, hc⟩
  · exact rread_nil A c w
  · replace hm := hm _ _ _ rfl
    rcases l with _ | ⟨x, _ | ⟨y, r⟩⟩
    · exact absurd hpos (by simp)
    · clear hpos
      have h0 := hc 0 (by simp)
      have hx := x.toNat_lt
      by_cases e0 : x.toNat = 0
      · have h0' : w.cell? ⟨b, o, none⟩ = some (.int .u8 x.toNat) := h0
        rw [e0] at h0'
        rw [show readV [x] = (0, 0, ⟨#[]⟩, 1, 0) by simp [readV, readRaw, e0, rightB]]
        exact rread_blank b o c 1 (by omega) w h0' (by omega)
      · have e : readRaw [x] = (0, 0, ⟨#[]⟩, 0) := by
          unfold readRaw
          (repeat' split) <;> first | rfl | omega | simp_all
        rw [show readV [x] = (0, 0, ⟨#[]⟩, 0, 2) by rw [readV, e]; rfl]
        exact rread_one b o c x.toNat (by omega) e0 w h0 (by omega)
    · clear hpos
      have h0 : w.cell? ⟨b, o, none⟩ = some (.int .u8 x.toNat) := hc 0 (by simp)
      have h1 : w.cell? ⟨b, o + 1, none⟩ = some (.int .u8 y.toNat) := hc 1 (by simp)
      have hx := x.toNat_lt
      have hy := y.toNat_lt
      have hn : (x :: y :: r).length = r.length + 2 := by simp
      by_cases e0 : x.toNat = 0
      · rw [show readV (x :: y :: r) = (0, 0, ⟨#[]⟩, 1, 0) by simp [readV, readRaw, e0, rightB]]
        rw [e0] at h0
        exact rread_blank b o c _ (by omega) w h0 (by omega)
      by_cases e1 : x.toNat = 1
      · rw [e1] at h0
        by_cases h8 : 8 ≤ (y :: r).length
        · have e : readRaw (x :: y :: r) = (1, wrap64 (beNat ((y :: r).take 8)), ⟨#[]⟩, 9) := by rw [readRaw, if_neg e0, if_pos e1, if_pos h8]
          rw [show readV (x :: y :: r) = (1, wrap64 (beNat ((y :: r).take 8)), ⟨#[]⟩, 9, 0) by rw [readV, e]; simp [rightB]]
          refine rread_num b o c _ (by simp at h8 ⊢; omega) hlc hm ((y :: r).take 8) (by rw [List.length_take]; omega) w h0 (fun i hi => ?_) (by omega)
          have hi' : i < (y :: r).length := by rw [List.length_take] at hi; omega
          have := hc (i + 1) (by simp at hi' ⊢; omega)
          rw [List.getElem_cons_succ] at this
          rw [List.getElem_take, show o + 1 + i = o + (i + 1) from by omega]
          exact this
        · have e : readRaw (x :: y :: r) = (0, 0, ⟨#[]⟩, 0) := by rw [readRaw, if_neg e0, if_pos e1, if_neg h8]
          rw [show readV (x :: y :: r) = (0, 0, ⟨#[]⟩, 0, 2) by rw [readV, e]; rfl]
          exact rread_none b o c _ 1 y.toNat (by omega) hlc (by omega) (by omega) w h0 h1 (by omega) (.inl ⟨rfl, by simp at h8 ⊢; omega⟩)
      by_cases e2 : x.toNat = 2
      · rw [e2] at h0
        by_cases hl : y.toNat ≤ r.length
        · have e : readRaw (x :: y :: r) = (2, 0, ⟨(r.take y.toNat).toArray⟩, 2 + (y.toNat : Int)) := by rw [readRaw, if_neg e0, if_neg e1, if_pos e2]; simp only [if_pos hl]
          rw [show readV (x :: y :: r) = (if rightB 2 0 ⟨(r.take y.toNat).toArray⟩ then (2, 0, ⟨(r.take y.toNat).toArray⟩, 2 + (y.toNat : Int), 0) else (0, 0, ⟨#[]⟩, 0, 2)) by rw [readV, e, if_neg (by simp; omega)]]
          refine rread_text b o c _ y.toNat (by omega) hlc hm (by omega) (by omega) (r.take y.toNat) (by rw [List.length_take]; omega) w h0 h1 (fun i hi => ?_) (by omega)
          have hi' : i < r.length := by rw [List.length_take] at hi; omega
          have := hc (i + 2) (by simp; omega)
          rw [List.getElem_take, Nat.add_comm 2 i]
          exact this
        · have e : readRaw (x :: y :: r) = (0, 0, ⟨#[]⟩, 0) := by rw [readRaw, if_neg e0, if_neg e1, if_pos e2]; simp only [if_neg hl]
          rw [show readV (x :: y :: r) = (0, 0, ⟨#[]⟩, 0, 2) by rw [readV, e]; rfl]
          exact rread_none b o c _ 2 y.toNat (by omega) hlc (by omega) (by omega) w h0 h1 (by omega) (.inr (.inl ⟨rfl, by omega⟩))
      by_cases e3 : x.toNat = 3 ∨ x.toNat = 4
      · have e : readRaw (x :: y :: r) = ((x.toNat : Int), (y.toNat : Int), (⟨#[]⟩ : ByteArray), (2 : Int)) := by rw [readRaw, if_neg e0, if_neg e1, if_neg e2, if_pos e3]
        rw [show readV (x :: y :: r) = (if rightB x.toNat y.toNat ⟨#[]⟩ then ((x.toNat : Int), (y.toNat : Int), ⟨#[]⟩, 2, 0) else (0, 0, ⟨#[]⟩, 0, 2)) by rw [readV, e, if_neg (by simp)]]
        exact rread_pair b o c _ x.toNat y.toNat (by omega) hlc e3 (by omega) w h0 h1 (by omega)
      · have e : readRaw (x :: y :: r) = (0, 0, ⟨#[]⟩, 0) := by rw [readRaw, if_neg e0, if_neg e1, if_neg e2, if_neg e3]
        rw [show readV (x :: y :: r) = (0, 0, ⟨#[]⟩, 0, 2) by rw [readV, e]; rfl]
        exact rread_none b o c _ x.toNat y.toNat (by omega) hlc (by omega) (by omega) w h0 h1 (by omega) (.inr (.inr (by omega)))

end Go.Proofs.YtaojlcgcghdlmaaDoor
