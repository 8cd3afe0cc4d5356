/- The law ValueTells: project and reference tell the same of values and bytes. -/
import Derived.Test.YtaojlcgcghdlmaaDoorLawA
import Derived.Test.YtaojlcgcghdlmaaDoorReg
import Derived.Lib.BufferRead
import Derived.Lib.BufferWrite
namespace Go.Proofs.YtaojlcgcghdlmaaDoor
open Go.RowKit

theorem Own.cap {B : Nat} {e : TypeId} {sz : Nat} {v : Value} {n : Nat} {xs : List Value} {W0 w : World} (h : Own B e sz v n xs W0 w) : ∀ A m c, v = .slice A m c → c ≤ maxLen := by
  intro A m c hv
  rcases h.1.2 with ⟨rfl, _⟩ | ⟨g, cap, cur, rfl, _, _, _, hc, _⟩
  · injection hv with _ _ h3; subst h3; unfold maxLen; omega
  · injection hv with _ _ h3; subst h3; exact hc

/-- 'string(v)' of bytes that the call itself has built. -/
theorem conv_own {B : Nat} {v : Value} {n : Nat} {l : List UInt8} {W0 w : World} (h : Own B 5 1 v n (Lib.byteCells l) W0 w) : (convert 24 9 v).run Tryd.prog w = .ok (.string ⟨l.toArray⟩) w := by
  have hl : l.length = n := by have := h.len; rw [Lib.byteCells_length] at this; omega
  rcases h.1.2 with ⟨rfl, h0⟩ | ⟨g, cap, cur, rfl, hbg, hh, r⟩
  · rw [h0] at hl
    obtain rfl := List.eq_nil_of_length_eq_zero hl
    exact Lib.run_convert_nil_bytes w 24 9 5 0 Tryd.underlying24 Tryd.underlying5 Tryd.underlying9
  · rw [← hl]
    refine run_convert_bytes_back w 24 9 5 ⟨g, 0, none⟩ cap l Tryd.underlying24 Tryd.underlying5 Tryd.underlying9 (fun j hj => ?_)
    rw [add_plain, Nat.zero_add, World.ownsRow.cellAt (n := n) (cap := cap) h.1 j (by omega)]
    simp [Lib.byteCells, hj]

/-- Four boxes lie in a world. -/
def Boxes (w : World) (p q : Nat) (k1 n1 : Int) (s1 : ByteArray) (k2 n2 : Int) (s2 : ByteArray) (k n : Int) (s : ByteArray) (W : World) : Prop :=
  W.cell? ⟨w.heap.size, 0, none⟩ = some (.int .i64 k1) ∧ W.cell? ⟨w.heap.size, 1, none⟩ = some (.int .i64 n1) ∧ W.cell? ⟨w.heap.size, 2, none⟩ = some (.string s1) ∧
  W.cell? ⟨w.heap.size + 1, 0, none⟩ = some (.int .i64 k2) ∧ W.cell? ⟨w.heap.size + 1, 1, none⟩ = some (.int .i64 n2) ∧ W.cell? ⟨w.heap.size + 1, 2, none⟩ = some (.string s2) ∧
  W.cell? ⟨p, 0, none⟩ = some (.int .i64 k) ∧ W.cell? ⟨p, 1, none⟩ = some (.int .i64 n) ∧ W.cell? ⟨p, 2, none⟩ = some (.string s) ∧
  W.cell? ⟨q, 0, none⟩ = some (.int .i64 k) ∧ W.cell? ⟨q, 1, none⟩ = some (.int .i64 n) ∧ W.cell? ⟨q, 2, none⟩ = some (.string s) ∧ Below w.heap.size w W
theorem Boxes.on {w : World} {p q : Nat} {k1 n1 : Int} {s1 : ByteArray} {k2 n2 : Int} {s2 : ByteArray} {k n : Int} {s : ByteArray} {W W' : World} (h : Boxes w p q k1 n1 s1 k2 n2 s2 k n s W) (hb : Below W.heap.size W W') : Boxes w p q k1 n1 s1 k2 n2 s2 k n s W' := by
  obtain ⟨a0, a1, a2, b0, b1, b2, c0, c1, c2, d0, d1, d2, hw⟩ := h
  exact ⟨kc hb a0, kc hb a1, kc hb a2, kc hb b0, kc hb b1, kc hb b2, kc hb c0, kc hb c1, kc hb c2, kc hb d0, kc hb d1, kc hb d2, hw.trans (hb.mono hw.size)⟩
/-- The first two of them, as long as the others are not there. -/
def Two (w : World) (k1 n1 : Int) (s1 : ByteArray) (k2 n2 : Int) (s2 : ByteArray) (W : World) : Prop :=
  W.cell? ⟨w.heap.size, 0, none⟩ = some (.int .i64 k1) ∧ W.cell? ⟨w.heap.size, 1, none⟩ = some (.int .i64 n1) ∧ W.cell? ⟨w.heap.size, 2, none⟩ = some (.string s1) ∧
  W.cell? ⟨w.heap.size + 1, 0, none⟩ = some (.int .i64 k2) ∧ W.cell? ⟨w.heap.size + 1, 1, none⟩ = some (.int .i64 n2) ∧ W.cell? ⟨w.heap.size + 1, 2, none⟩ = some (.string s2) ∧ Below w.heap.size w W ∧ Glob W
theorem Two.on {w : World} {k1 n1 : Int} {s1 : ByteArray} {k2 n2 : Int} {s2 : ByteArray} {W W' : World} (h : Two w k1 n1 s1 k2 n2 s2 W) (hb : Below W.heap.size W W') : Two w k1 n1 s1 k2 n2 s2 W' := by
  obtain ⟨a0, a1, a2, b0, b1, b2, hw, hg⟩ := h
  exact ⟨kc hb a0, kc hb a1, kc hb a2, kc hb b0, kc hb b1, kc hb b2, hw.trans (hb.mono hw.size), hg.below hb⟩
theorem Two.cells {w : World} {k1 n1 : Int} {s1 : ByteArray} {k2 n2 : Int} {s2 : ByteArray} {W : World} (h : Two w k1 n1 s1 k2 n2 s2 W) :
    W.cell? ⟨w.heap.size, 0, none⟩ = some (.int .i64 k1) ∧ W.cell? ⟨w.heap.size, 1, none⟩ = some (.int .i64 n1) ∧ W.cell? ⟨w.heap.size, 2, none⟩ = some (.string s1) ∧
    W.cell? ⟨w.heap.size + 1, 0, none⟩ = some (.int .i64 k2) ∧ W.cell? ⟨w.heap.size + 1, 1, none⟩ = some (.int .i64 n2) ∧ W.cell? ⟨w.heap.size + 1, 2, none⟩ = some (.string s2) :=
  ⟨h.1, h.2.1, h.2.2.1, h.2.2.2.1, h.2.2.2.2.1, h.2.2.2.2.2.1⟩
theorem Two.below {w : World} {k1 n1 : Int} {s1 : ByteArray} {k2 n2 : Int} {s2 : ByteArray} {W : World} (h : Two w k1 n1 s1 k2 n2 s2 W) : Below w.heap.size w W := h.2.2.2.2.2.2.1
theorem Two.glob {w : World} {k1 n1 : Int} {s1 : ByteArray} {k2 n2 : Int} {s2 : ByteArray} {W : World} (h : Two w k1 n1 s1 k2 n2 s2 W) : Glob W := h.2.2.2.2.2.2.2
theorem two_new (w : World) (hg : Glob w) (k1 n1 : Int) (s1 : ByteArray) (k2 n2 : Int) (s2 : ByteArray) : Two w k1 n1 s1 k2 n2 s2 ((w.alloc (.cells #[.int .i64 k1, .int .i64 n1, .string s1] 23)).alloc (.cells #[.int .i64 k2, .int .i64 n2, .string s2] 23)) :=
  ⟨by go_simp, by go_simp, by go_simp, by go_simp, by go_simp, by go_simp, (below_new w _).alloc (by simp) _, (hg.alloc _).alloc _⟩
theorem own_bysl {B : Nat} {e : TypeId} {v : Value} {l : List UInt8} {W0 w : World} (h : Own B e 1 v (0 + l.length) ([] ++ Lib.byteCells l) W0 w) : BySl w w.heap.size v l := by
  have := h.slAt
  rw [Nat.zero_add, List.nil_append] at this
  exact this
/-- The third and fourth boxes: each just behind its call. -/
theorem boxes_new {w w3 w4 : World} {k1 n1 : Int} {s1 : ByteArray} {k2 n2 : Int} {s2 : ByteArray} {k n : Int} {s : ByteArray} (h : Two w k1 n1 s1 k2 n2 s2 w3)
    (hb : Below (w3.alloc (.cells #[.int .i64 k, .int .i64 n, .string s] 23)).heap.size (w3.alloc (.cells #[.int .i64 k, .int .i64 n, .string s] 23)) w4) :
    Boxes w w3.heap.size w4.heap.size k1 n1 s1 k2 n2 s2 k n s (w4.alloc (.cells #[.int .i64 k, .int .i64 n, .string s] 23)) ∧ Glob (w4.alloc (.cells #[.int .i64 k, .int .i64 n, .string s] 23)) := by
  have h4 := ((h.on (below_new w3 (.cells #[.int .i64 k, .int .i64 n, .string s] 23))).on hb)
  have h5 := h4.on (below_new w4 (.cells #[.int .i64 k, .int .i64 n, .string s] 23))
  obtain ⟨c0, c1, c2⟩ := vbox hb
  obtain ⟨a0, a1, a2, b0, b1, b2⟩ := h5.cells
  have hn := below_new w4 (.cells #[.int .i64 k, .int .i64 n, .string s] 23)
  exact ⟨⟨a0, a1, a2, b0, b1, b2, kc hn c0, kc hn c1, kc hn c2, by go_simp, by go_simp, by go_simp, h5.below⟩, h5.glob⟩
theorem Boxes.low {w : World} {p q : Nat} {k1 n1 : Int} {s1 : ByteArray} {k2 n2 : Int} {s2 : ByteArray} {k n : Int} {s : ByteArray} {W : World} (h : Boxes w p q k1 n1 s1 k2 n2 s2 k n s W) : Below w.heap.size w W := h.2.2.2.2.2.2.2.2.2.2.2.2

set_option maxHeartbeats 4000000 in
theorem valueTells_any (k1 n1 : Int) (s1 : ByteArray) (k2 n2 : Int) (s2 : ByteArray) (A : Option Addr) (c : Nat) (l : List UInt8) (w : World) (hg : Glob w) (h0 : -9223372036854775808 ≤ n1) (h1 : n1 ≤ 9223372036854775807)
    (hl : BySl w w.heap.size (.slice A l.length c) l) (hc : c ≤ maxLen) :
    Calls Tryd.prog 3 #[.agg #[.int .i64 k1, .int .i64 n1, .string s1], .agg #[.int .i64 k2, .int .i64 n2, .string s2], .slice A l.length c] w fun e w' => e = .returned (.bool true) ∧ Below w.heap.size w w' := by
  have tw0 := two_new w hg k1 n1 s1 k2 n2 s2
  by_cases g1 : 400 < (s1.size : Int)
  · go_enter Tryd.func3, Tryd.ntmps3
    go_wp2_with (first | (go_at_call 6; ((with_reducible refine (alive_any _ tw0.glob).mono ?_); rintro e w1 ⟨rfl, hb1⟩; have tw1 := tw0.on hb1; obtain ⟨a0, a1, a2, b0, b1, b2⟩ := tw1.cells)))
    go_ret
    exact ⟨rfl, tw1.below⟩
  by_cases g2 : 400 < (s2.size : Int)
  · go_enter Tryd.func3, Tryd.ntmps3
    go_wp2_with (first | (go_at_call 6; ((with_reducible refine (alive_any _ tw0.glob).mono ?_); rintro e w1 ⟨rfl, hb1⟩; have tw1 := tw0.on hb1; obtain ⟨a0, a1, a2, b0, b1, b2⟩ := tw1.cells)))
    go_ret
    exact ⟨rfl, tw1.below⟩
  by_cases g3 : 500 < (l.length : Int)
  · go_enter Tryd.func3, Tryd.ntmps3
    go_wp2_with (first | (go_at_call 6; ((with_reducible refine (alive_any _ tw0.glob).mono ?_); rintro e w1 ⟨rfl, hb1⟩; have tw1 := tw0.on hb1; obtain ⟨a0, a1, a2, b0, b1, b2⟩ := tw1.cells)))
    go_ret
    exact ⟨rfl, tw1.below⟩
  obtain ⟨i0, hi0, hz0, hz1, hz2⟩ := info_parts info_u8
  have hrv : readV l = ((readV l).1, (readV l).2.1, (readV l).2.2.1, (readV l).2.2.2.1, (readV l).2.2.2.2) := rfl
  obtain ⟨k, n, s, z, er, hx⟩ : ∃ k n s z er, readV l = (k, n, s, z, er) := ⟨_, _, _, _, _, hrv⟩
  have HR1 : Hid (∀ (B : Nat) (v : Value) (W : World), BySl W B v l → B ≤ W.heap.size → (∀ A n c, v = .slice A n c → c ≤ maxLen) → Calls Tryd.prog 7 #[v] W fun e w' => e = .returned (.tuple #[.agg #[.int .i64 k, .int .i64 n, .string s], .int .i64 z, .int .i64 er]) ∧ Below W.heap.size W w') :=
    fun B v W h hB hm => by have := read_any B v l W h hB hm; rw [hx] at this; exact this
  have HR2 : Hid (∀ (B : Nat) (v : Value) (W : World), BySl W B v l → B ≤ W.heap.size → (∀ A n c, v = .slice A n c → c ≤ maxLen) → Calls Tryd.prog 8 #[v] W fun e w' => e = .returned (.tuple #[.agg #[.int .i64 k, .int .i64 n, .string s], .int .i64 z, .int .i64 er]) ∧ Below W.heap.size W w') :=
    fun B v W h hB hm => by have := rread_any B v l W h hB hm; rw [hx] at this; exact this
  have hl9 : 0 + l.length ≤ maxLen := by unfold maxLen; omega
  have hl8 : (0 + l.length) * 1 ≤ 140737488355328 := by omega
  have h1c : ∀ u ∈ Lib.byteCells l, u.oneCell' = true := Lib.byteCells_one l
  have HL := Lib.hid hl
  have hmax : ∀ A' n' c', Value.slice A l.length c = .slice A' n' c' → c' ≤ maxLen := fun A' n' c' h => by injection h with _ _ h3; subst h3; exact hc
  clear hrv hx hl
  go_enter Tryd.func3, Tryd.ntmps3
  go_wp2_with (first | (go_at_call 6; ((with_reducible refine (alive_any _ tw0.glob).mono ?_); rintro e w1 ⟨rfl, hb1⟩; have tw1 := tw0.on hb1; obtain ⟨a0, a1, a2, b0, b1, b2⟩ := tw1.cells)) | (at_builtin; refine wpList_own_any rfl (.const (.slice none 0 0)) (.tmp 36) 24 rfl i0 (.int .u8 0) 1 Tryd.underlying24 hi0 hz0 hz1 hz2 rfl (by decide) rfl (Own.nil (Below.refl w1.heap.size w1) (Nat.le_refl _)) rfl (HL.out.on tw1.below) h1c hl9 hl8 ?_; intro v2 w2 ho2; have tw2 := tw1.on ho2.below) | (go_at_call 7; (refine (HR1.out w2.heap.size _ _ (own_bysl ho2) (Nat.le_refl _) ho2.cap).mono ?_); rintro e w3 ⟨rfl, hb3⟩; have tw3 := tw2.on hb3; have tw3a := tw3.on (below_new w3 (.cells #[.int .i64 k, .int .i64 n, .string s] 23))) | (go_at_call 8; (refine (HR2.out w.heap.size _ _ (HL.out.on tw3a.below) tw3a.below.size hmax).mono ?_); rintro e w4 ⟨rfl, hb4⟩; obtain ⟨bx5, hg5⟩ := boxes_new tw3 hb4))
  have bx4 := bx5.on (Below.refl _ _).drew
  have hg4 := hg5.drew
  clear hb1 tw1 a0 a1 a2 b0 b1 b2 ho2 tw2 hb3 tw3 tw3a hb4 tw0 hg HR1 HR2 HL hmax h1c hl8 hl9 hi0 hz0 hz1 hz2 bx5 hg5
  have bx5 := bx4
  have hg5 := hg4
  clear bx4 hg4
  refine held_begin (by kernel_rfl) ?_
  refine wpAnyH_take (i := 0) (oi := { dst := some 48, op := Go.Op.load 23 (Go.Operand.tmp 3), type := 23, pos := "law.go:26", after := #[], guard := none }) (v := (.agg #[.int .i64 k1, .int .i64 n1, .string s1])) rfl (by kernel_rfl) (by kernel_rfl) (by kernel_rfl) (fun _ _ _ h => h) (Or.inl ⟨by rfl, fun W hW => ?_⟩) (Below.refl _ _) ?_
  · obtain ⟨a0, a1, a2, b0, b1, b2, c0, c1, c2, d0, d1, d2, hw⟩ := bx5.on hW; clear hw; go_simp
  try simp only [Act.put, List.setIfInBounds_toArray, List.set_cons_zero, List.set_cons_succ]
  refine wpAnyH_take (i := 2) (oi := { dst := some 50, op := Go.Op.load 23 (Go.Operand.tmp 3), type := 23, pos := "law.go:26", after := #[], guard := none }) (v := (.agg #[.int .i64 k1, .int .i64 n1, .string s1])) rfl (by kernel_rfl) (by kernel_rfl) (by kernel_rfl) (fun _ _ _ h => h) (Or.inl ⟨by rfl, fun W hW => ?_⟩) (Below.refl _ _) ?_
  · obtain ⟨a0, a1, a2, b0, b1, b2, c0, c1, c2, d0, d1, d2, hw⟩ := bx5.on hW; clear hw; go_simp
  try simp only [Act.put, List.setIfInBounds_toArray, List.set_cons_zero, List.set_cons_succ]
  refine wpAnyH_ready (rs := [1]) (by kernel_rfl) (by simp) ?_
  refine AllReadyH.cons (o := { dst := some 49, op := Go.Op.call { callee := Go.Callee.value (Go.Operand.func 9), args := #[Go.Operand.tmp 48], argTypes := #[23] }, type := 4, pos := "law.go:26", after := #[{ on := 0, ground := Go.Ground.data }], guard := none }) rfl (fun K hK => ?_) AllReadyH.nil
  go_simp
  go_at_call 9
  (with_reducible refine (right_any k1 n1 s1 _).mono ?_)
  rintro e w6 ⟨rfl, hb6⟩
  have bx6 := bx5.on hb6
  have hg6 := hg5.below hb6
  refine held_on hK hb6 ?_
  clear hK K
  try simp only [Act.put, List.setIfInBounds_toArray, List.set_cons_zero, List.set_cons_succ]
  refine wpAnyH_ready (rs := [3]) (by kernel_rfl) (by simp) ?_
  refine AllReadyH.cons (o := { dst := some 51, op := Go.Op.call { callee := Go.Callee.value (Go.Operand.func 10), args := #[Go.Operand.tmp 50], argTypes := #[23] }, type := 4, pos := "law.go:26", after := #[{ on := 2, ground := Go.Ground.data }, { on := 1, ground := Go.Ground.chain }], guard := none }) rfl (fun K hK => ?_) AllReadyH.nil
  go_simp
  go_at_call 10
  (with_reducible refine (rrightv_any k1 n1 s1 _).mono ?_)
  rintro e w7 ⟨rfl, hb7⟩
  have bx7 := bx6.on hb7
  have hg7 := hg6.below hb7
  refine held_on hK hb7 ?_
  clear hK K
  try simp only [Act.put, List.setIfInBounds_toArray, List.set_cons_zero, List.set_cons_succ]
  refine wpAnyH_take (i := 4) (oi := { dst := some 52, op := Go.Op.binOp Go.BinOp.eql 4 (Go.Operand.tmp 49) (Go.Operand.tmp 51) 4, type := 4, pos := "law.go:26", after := #[{ on := 1, ground := Go.Ground.data }, { on := 3, ground := Go.Ground.data }], guard := none }) (v := (.bool true)) rfl (by kernel_rfl) (by kernel_rfl) (by kernel_rfl) (fun _ _ _ h => h) (Or.inl ⟨by rfl, fun W hW => ?_⟩) (Below.refl _ _) ?_
  · go_simp
  try simp only [Act.put, List.setIfInBounds_toArray, List.set_cons_zero, List.set_cons_succ]
  refine wpAnyH_take (i := 5) (oi := { dst := some 53, op := Go.Op.move (Go.Operand.tmp 52), type := 4, pos := "law.go:26", after := #[{ on := 4, ground := Go.Ground.data }, { on := 3, ground := Go.Ground.chain }], guard := none }) (v := (.bool true)) rfl (by kernel_rfl) (by kernel_rfl) (by kernel_rfl) (fun _ _ _ h => h) (Or.inl ⟨by rfl, fun W hW => ?_⟩) (Below.refl _ _) ?_
  · go_simp
  try simp only [Act.put, List.setIfInBounds_toArray, List.set_cons_zero, List.set_cons_succ]
  refine wpAnyH_take (i := 6) (oi := { dst := some 54, op := Go.Op.load 23 (Go.Operand.tmp 3), type := 23, pos := "law.go:26", after := #[{ on := 5, ground := Go.Ground.guard }], guard := some (5, true) }) (v := (.agg #[.int .i64 k1, .int .i64 n1, .string s1])) rfl (by kernel_rfl) (by kernel_rfl) (by kernel_rfl) (fun _ _ _ h => h) (Or.inl ⟨by rfl, fun W hW => ?_⟩) (Below.refl _ _) ?_
  · obtain ⟨a0, a1, a2, b0, b1, b2, c0, c1, c2, d0, d1, d2, hw⟩ := bx7.on hW; clear hw; go_simp
  try simp only [Act.put, List.setIfInBounds_toArray, List.set_cons_zero, List.set_cons_succ]
  refine wpAnyH_take (i := 7) (oi := { dst := some 55, op := Go.Op.load 23 (Go.Operand.tmp 4), type := 23, pos := "law.go:26", after := #[{ on := 5, ground := Go.Ground.guard }], guard := some (5, true) }) (v := (.agg #[.int .i64 k2, .int .i64 n2, .string s2])) rfl (by kernel_rfl) (by kernel_rfl) (by kernel_rfl) (fun _ _ _ h => h) (Or.inl ⟨by rfl, fun W hW => ?_⟩) (Below.refl _ _) ?_
  · obtain ⟨a0, a1, a2, b0, b1, b2, c0, c1, c2, d0, d1, d2, hw⟩ := bx7.on hW; clear hw; go_simp
  try simp only [Act.put, List.setIfInBounds_toArray, List.set_cons_zero, List.set_cons_succ]
  refine wpAnyH_take (i := 9) (oi := { dst := some 57, op := Go.Op.load 23 (Go.Operand.tmp 3), type := 23, pos := "law.go:26", after := #[{ on := 5, ground := Go.Ground.guard }], guard := some (5, true) }) (v := (.agg #[.int .i64 k1, .int .i64 n1, .string s1])) rfl (by kernel_rfl) (by kernel_rfl) (by kernel_rfl) (fun _ _ _ h => h) (Or.inl ⟨by rfl, fun W hW => ?_⟩) (Below.refl _ _) ?_
  · obtain ⟨a0, a1, a2, b0, b1, b2, c0, c1, c2, d0, d1, d2, hw⟩ := bx7.on hW; clear hw; go_simp
  try simp only [Act.put, List.setIfInBounds_toArray, List.set_cons_zero, List.set_cons_succ]
  refine wpAnyH_take (i := 10) (oi := { dst := some 58, op := Go.Op.load 23 (Go.Operand.tmp 4), type := 23, pos := "law.go:26", after := #[{ on := 5, ground := Go.Ground.guard }], guard := some (5, true) }) (v := (.agg #[.int .i64 k2, .int .i64 n2, .string s2])) rfl (by kernel_rfl) (by kernel_rfl) (by kernel_rfl) (fun _ _ _ h => h) (Or.inl ⟨by rfl, fun W hW => ?_⟩) (Below.refl _ _) ?_
  · obtain ⟨a0, a1, a2, b0, b1, b2, c0, c1, c2, d0, d1, d2, hw⟩ := bx7.on hW; clear hw; go_simp
  try simp only [Act.put, List.setIfInBounds_toArray, List.set_cons_zero, List.set_cons_succ]
  refine wpAnyH_ready (rs := [8]) (by kernel_rfl) (by simp) ?_
  refine AllReadyH.cons (o := { dst := some 56, op := Go.Op.call { callee := Go.Callee.value (Go.Operand.func 11), args := #[Go.Operand.tmp 54, Go.Operand.tmp 55], argTypes := #[23, 23] }, type := 3, pos := "law.go:26", after := #[{ on := 6, ground := Go.Ground.data }, { on := 7, ground := Go.Ground.data }, { on := 5, ground := Go.Ground.chain }, { on := 5, ground := Go.Ground.guard }], guard := some (5, true) }) rfl (fun K hK => ?_) AllReadyH.nil
  go_simp
  go_at_call 11
  (with_reducible refine (compare_any k1 n1 s1 k2 n2 s2 _).mono ?_)
  rintro e w8 ⟨rfl, hb8⟩
  have bx8 := bx7.on hb8
  have hg8 := hg7.below hb8
  refine held_on hK hb8 ?_
  clear hK K
  try simp only [Act.put, List.setIfInBounds_toArray, List.set_cons_zero, List.set_cons_succ]
  refine wpAnyH_ready (rs := [11]) (by kernel_rfl) (by simp) ?_
  refine AllReadyH.cons (o := { dst := some 59, op := Go.Op.call { callee := Go.Callee.value (Go.Operand.func 12), args := #[Go.Operand.tmp 57, Go.Operand.tmp 58], argTypes := #[23, 23] }, type := 3, pos := "law.go:26", after := #[{ on := 9, ground := Go.Ground.data }, { on := 10, ground := Go.Ground.data }, { on := 8, ground := Go.Ground.chain }, { on := 5, ground := Go.Ground.guard }], guard := some (5, true) }) rfl (fun K hK => ?_) AllReadyH.nil
  go_simp
  go_at_call 12
  (with_reducible refine (rcompare_any k1 n1 s1 k2 n2 s2 _).mono ?_)
  rintro e w9 ⟨rfl, hb9⟩
  have bx9 := bx8.on hb9
  have hg9 := hg8.below hb9
  refine held_on hK hb9 ?_
  clear hK K
  try simp only [Act.put, List.setIfInBounds_toArray, List.set_cons_zero, List.set_cons_succ]
  refine wpAnyH_take (i := 12) (oi := { dst := some 60, op := Go.Op.binOp Go.BinOp.eql 3 (Go.Operand.tmp 56) (Go.Operand.tmp 59) 3, type := 4, pos := "law.go:26", after := #[{ on := 8, ground := Go.Ground.data }, { on := 11, ground := Go.Ground.data }, { on := 5, ground := Go.Ground.guard }], guard := some (5, true) }) (v := (.bool true)) rfl (by kernel_rfl) (by kernel_rfl) (by kernel_rfl) (fun _ _ _ h => h) (Or.inl ⟨by rfl, fun W hW => ?_⟩) (Below.refl _ _) ?_
  · go_simp
  try simp only [Act.put, List.setIfInBounds_toArray, List.set_cons_zero, List.set_cons_succ]
  refine wpAnyH_take (i := 13) (oi := { dst := some 61, op := Go.Op.pick (Go.Operand.tmp 53) (Go.Operand.tmp 60) (Go.Operand.const (Go.Value.bool false)), type := 4, pos := "law.go:26", after := #[{ on := 5, ground := Go.Ground.data }, { on := 12, ground := Go.Ground.data }], guard := none }) (v := (.bool true)) rfl (by kernel_rfl) (by kernel_rfl) (by kernel_rfl) (fun _ _ _ h => h) (Or.inl ⟨by rfl, fun W hW => ?_⟩) (Below.refl _ _) ?_
  · go_simp
  try simp only [Act.put, List.setIfInBounds_toArray, List.set_cons_zero, List.set_cons_succ]
  refine wpAnyH_take (i := 14) (oi := { dst := some 62, op := Go.Op.move (Go.Operand.tmp 61), type := 4, pos := "law.go:26", after := #[{ on := 13, ground := Go.Ground.data }, { on := 11, ground := Go.Ground.chain }], guard := none }) (v := (.bool true)) rfl (by kernel_rfl) (by kernel_rfl) (by kernel_rfl) (fun _ _ _ h => h) (Or.inl ⟨by rfl, fun W hW => ?_⟩) (Below.refl _ _) ?_
  · go_simp
  try simp only [Act.put, List.setIfInBounds_toArray, List.set_cons_zero, List.set_cons_succ]
  refine wpAnyH_take (i := 15) (oi := { dst := some 63, op := Go.Op.load 23 (Go.Operand.tmp 3), type := 23, pos := "law.go:26", after := #[{ on := 14, ground := Go.Ground.guard }], guard := some (14, true) }) (v := (.agg #[.int .i64 k1, .int .i64 n1, .string s1])) rfl (by kernel_rfl) (by kernel_rfl) (by kernel_rfl) (fun _ _ _ h => h) (Or.inl ⟨by rfl, fun W hW => ?_⟩) (Below.refl _ _) ?_
  · obtain ⟨a0, a1, a2, b0, b1, b2, c0, c1, c2, d0, d1, d2, hw⟩ := bx9.on hW; clear hw; go_simp
  try simp only [Act.put, List.setIfInBounds_toArray, List.set_cons_zero, List.set_cons_succ]
  refine wpAnyH_take (i := 17) (oi := { dst := some 65, op := Go.Op.load 23 (Go.Operand.tmp 3), type := 23, pos := "law.go:26", after := #[{ on := 14, ground := Go.Ground.guard }], guard := some (14, true) }) (v := (.agg #[.int .i64 k1, .int .i64 n1, .string s1])) rfl (by kernel_rfl) (by kernel_rfl) (by kernel_rfl) (fun _ _ _ h => h) (Or.inl ⟨by rfl, fun W hW => ?_⟩) (Below.refl _ _) ?_
  · obtain ⟨a0, a1, a2, b0, b1, b2, c0, c1, c2, d0, d1, d2, hw⟩ := bx9.on hW; clear hw; go_simp
  try simp only [Act.put, List.setIfInBounds_toArray, List.set_cons_zero, List.set_cons_succ]
  refine wpAnyH_ready (rs := [16]) (by kernel_rfl) (by simp) ?_
  refine AllReadyH.cons (o := { dst := some 64, op := Go.Op.call { callee := Go.Callee.value (Go.Operand.func 13), args := #[Go.Operand.tmp 63], argTypes := #[23] }, type := 9, pos := "law.go:26", after := #[{ on := 15, ground := Go.Ground.data }, { on := 14, ground := Go.Ground.chain }, { on := 14, ground := Go.Ground.guard }], guard := some (14, true) }) rfl (fun K hK => ?_) AllReadyH.nil
  go_simp
  go_at_call 13
  (with_reducible refine (show_any k1 n1 s1 _ hg9 h0 h1).mono ?_)
  rintro e w10 ⟨rfl, hb10⟩
  have bx10 := bx9.on hb10
  have hg10 := hg9.below hb10
  refine held_on hK hb10 ?_
  clear hK K
  try simp only [Act.put, List.setIfInBounds_toArray, List.set_cons_zero, List.set_cons_succ]
  refine wpAnyH_ready (rs := [18]) (by kernel_rfl) (by simp) ?_
  refine AllReadyH.cons (o := { dst := some 66, op := Go.Op.call { callee := Go.Callee.value (Go.Operand.func 14), args := #[Go.Operand.tmp 65], argTypes := #[23] }, type := 9, pos := "law.go:26", after := #[{ on := 17, ground := Go.Ground.data }, { on := 16, ground := Go.Ground.chain }, { on := 14, ground := Go.Ground.guard }], guard := some (14, true) }) rfl (fun K hK => ?_) AllReadyH.nil
  go_simp
  go_at_call 14
  (with_reducible refine (rshow_any k1 n1 s1 _ h0 h1).mono ?_)
  rintro e w11 ⟨rfl, hb11⟩
  have bx11 := bx10.on hb11
  have hg11 := hg10.below hb11
  refine held_on hK hb11 ?_
  clear hK K
  try simp only [Act.put, List.setIfInBounds_toArray, List.set_cons_zero, List.set_cons_succ]
  refine wpAnyH_take (i := 19) (oi := { dst := some 67, op := Go.Op.binOp Go.BinOp.eql 9 (Go.Operand.tmp 64) (Go.Operand.tmp 66) 9, type := 4, pos := "law.go:26", after := #[{ on := 16, ground := Go.Ground.data }, { on := 18, ground := Go.Ground.data }, { on := 14, ground := Go.Ground.guard }], guard := some (14, true) }) (v := (.bool true)) rfl (by kernel_rfl) (by kernel_rfl) (by kernel_rfl) (fun _ _ _ h => h) (Or.inl ⟨by rfl, fun W hW => ?_⟩) (Below.refl _ _) ?_
  · go_simp
  try simp only [Act.put, List.setIfInBounds_toArray, List.set_cons_zero, List.set_cons_succ]
  refine wpAnyH_take (i := 20) (oi := { dst := some 68, op := Go.Op.pick (Go.Operand.tmp 62) (Go.Operand.tmp 67) (Go.Operand.const (Go.Value.bool false)), type := 4, pos := "law.go:26", after := #[{ on := 14, ground := Go.Ground.data }, { on := 19, ground := Go.Ground.data }], guard := none }) (v := (.bool true)) rfl (by kernel_rfl) (by kernel_rfl) (by kernel_rfl) (fun _ _ _ h => h) (Or.inl ⟨by rfl, fun W hW => ?_⟩) (Below.refl _ _) ?_
  · go_simp
  try simp only [Act.put, List.setIfInBounds_toArray, List.set_cons_zero, List.set_cons_succ]
  refine wpAnyH_take (i := 21) (oi := { dst := some 69, op := Go.Op.move (Go.Operand.tmp 68), type := 4, pos := "law.go:26", after := #[{ on := 20, ground := Go.Ground.data }, { on := 18, ground := Go.Ground.chain }], guard := none }) (v := (.bool true)) rfl (by kernel_rfl) (by kernel_rfl) (by kernel_rfl) (fun _ _ _ h => h) (Or.inl ⟨by rfl, fun W hW => ?_⟩) (Below.refl _ _) ?_
  · go_simp
  try simp only [Act.put, List.setIfInBounds_toArray, List.set_cons_zero, List.set_cons_succ]
  refine wpAnyH_take (i := 22) (oi := { dst := some 70, op := Go.Op.load 23 (Go.Operand.tmp 3), type := 23, pos := "law.go:26", after := #[{ on := 21, ground := Go.Ground.guard }], guard := some (21, true) }) (v := (.agg #[.int .i64 k1, .int .i64 n1, .string s1])) rfl (by kernel_rfl) (by kernel_rfl) (by kernel_rfl) (fun _ _ _ h => h) (Or.inl ⟨by rfl, fun W hW => ?_⟩) (Below.refl _ _) ?_
  · obtain ⟨a0, a1, a2, b0, b1, b2, c0, c1, c2, d0, d1, d2, hw⟩ := bx11.on hW; clear hw; go_simp
  try simp only [Act.put, List.setIfInBounds_toArray, List.set_cons_zero, List.set_cons_succ]
  refine wpAnyH_take (i := 25) (oi := { dst := some 73, op := Go.Op.load 23 (Go.Operand.tmp 3), type := 23, pos := "law.go:26", after := #[{ on := 21, ground := Go.Ground.guard }], guard := some (21, true) }) (v := (.agg #[.int .i64 k1, .int .i64 n1, .string s1])) rfl (by kernel_rfl) (by kernel_rfl) (by kernel_rfl) (fun _ _ _ h => h) (Or.inl ⟨by rfl, fun W hW => ?_⟩) (Below.refl _ _) ?_
  · obtain ⟨a0, a1, a2, b0, b1, b2, c0, c1, c2, d0, d1, d2, hw⟩ := bx11.on hW; clear hw; go_simp
  try simp only [Act.put, List.setIfInBounds_toArray, List.set_cons_zero, List.set_cons_succ]
  refine wpAnyH_ready (rs := [23]) (by kernel_rfl) (by simp) ?_
  refine AllReadyH.cons (o := { dst := some 71, op := Go.Op.call { callee := Go.Callee.value (Go.Operand.func 15), args := #[Go.Operand.tmp 70], argTypes := #[23] }, type := 24, pos := "law.go:26", after := #[{ on := 22, ground := Go.Ground.data }, { on := 21, ground := Go.Ground.chain }, { on := 21, ground := Go.Ground.guard }], guard := some (21, true) }) rfl (fun K hK => ?_) AllReadyH.nil
  go_simp
  go_at_call 15
  (with_reducible refine (bytes_any k1 n1 s1 _).mono ?_)
  rintro e w12 ⟨v12, rfl, ho12⟩
  have bx12 := bx11.on ho12.below
  have hg12 := hg11.below ho12.below
  refine held_on hK ho12.below ?_
  clear hK K
  try simp only [Act.put, List.setIfInBounds_toArray, List.set_cons_zero, List.set_cons_succ]
  refine wpAnyH_take (i := 24) (oi := { dst := some 72, op := Go.Op.convert 24 9 (Go.Operand.tmp 71), type := 9, pos := "law.go:26", after := #[{ on := 23, ground := Go.Ground.data }, { on := 21, ground := Go.Ground.guard }], guard := some (21, true) }) (v := .string ⟨(bytesV k1 n1 s1).toArray⟩) rfl (by kernel_rfl) (by kernel_rfl) (by kernel_rfl) (fun _ _ _ h => h) (Or.inl ⟨by rfl, fun W hW => ?_⟩) (Below.refl _ _) ?_
  · have cv := conv_own (ho12.on hW); go_simp
  try simp only [Act.put, List.setIfInBounds_toArray, List.set_cons_zero, List.set_cons_succ]
  refine wpAnyH_ready (rs := [26]) (by kernel_rfl) (by simp) ?_
  refine AllReadyH.cons (o := { dst := some 74, op := Go.Op.call { callee := Go.Callee.value (Go.Operand.func 16), args := #[Go.Operand.tmp 73], argTypes := #[23] }, type := 24, pos := "law.go:26", after := #[{ on := 25, ground := Go.Ground.data }, { on := 23, ground := Go.Ground.chain }, { on := 21, ground := Go.Ground.guard }], guard := some (21, true) }) rfl (fun K hK => ?_) AllReadyH.nil
  go_simp
  go_at_call 16
  (with_reducible refine (rbytes_any k1 n1 s1 _).mono ?_)
  rintro e w13 ⟨v13, rfl, ho13⟩
  have bx13 := bx12.on ho13.below
  have hg13 := hg12.below ho13.below
  refine held_on hK ho13.below ?_
  clear hK K
  try simp only [Act.put, List.setIfInBounds_toArray, List.set_cons_zero, List.set_cons_succ]
  refine wpAnyH_take (i := 27) (oi := { dst := some 75, op := Go.Op.convert 24 9 (Go.Operand.tmp 74), type := 9, pos := "law.go:26", after := #[{ on := 26, ground := Go.Ground.data }, { on := 21, ground := Go.Ground.guard }], guard := some (21, true) }) (v := .string ⟨(bytesV k1 n1 s1).toArray⟩) rfl (by kernel_rfl) (by kernel_rfl) (by kernel_rfl) (fun _ _ _ h => h) (Or.inl ⟨by rfl, fun W hW => ?_⟩) (Below.refl _ _) ?_
  · have cv := conv_own (ho13.on hW); go_simp
  try simp only [Act.put, List.setIfInBounds_toArray, List.set_cons_zero, List.set_cons_succ]
  refine wpAnyH_take (i := 28) (oi := { dst := some 76, op := Go.Op.binOp Go.BinOp.eql 9 (Go.Operand.tmp 72) (Go.Operand.tmp 75) 9, type := 4, pos := "law.go:26", after := #[{ on := 24, ground := Go.Ground.data }, { on := 27, ground := Go.Ground.data }, { on := 21, ground := Go.Ground.guard }], guard := some (21, true) }) (v := (.bool true)) rfl (by kernel_rfl) (by kernel_rfl) (by kernel_rfl) (fun _ _ _ h => h) (Or.inl ⟨by rfl, fun W hW => ?_⟩) (Below.refl _ _) ?_
  · go_simp
  try simp only [Act.put, List.setIfInBounds_toArray, List.set_cons_zero, List.set_cons_succ]
  refine wpAnyH_take (i := 29) (oi := { dst := some 77, op := Go.Op.pick (Go.Operand.tmp 69) (Go.Operand.tmp 76) (Go.Operand.const (Go.Value.bool false)), type := 4, pos := "law.go:26", after := #[{ on := 21, ground := Go.Ground.data }, { on := 28, ground := Go.Ground.data }], guard := none }) (v := (.bool true)) rfl (by kernel_rfl) (by kernel_rfl) (by kernel_rfl) (fun _ _ _ h => h) (Or.inl ⟨by rfl, fun W hW => ?_⟩) (Below.refl _ _) ?_
  · go_simp
  try simp only [Act.put, List.setIfInBounds_toArray, List.set_cons_zero, List.set_cons_succ]
  refine wpAnyH_take (i := 30) (oi := { dst := some 78, op := Go.Op.move (Go.Operand.tmp 77), type := 4, pos := "law.go:26", after := #[{ on := 29, ground := Go.Ground.data }, { on := 26, ground := Go.Ground.chain }], guard := none }) (v := (.bool true)) rfl (by kernel_rfl) (by kernel_rfl) (by kernel_rfl) (fun _ _ _ h => h) (Or.inl ⟨by rfl, fun W hW => ?_⟩) (Below.refl _ _) ?_
  · go_simp
  try simp only [Act.put, List.setIfInBounds_toArray, List.set_cons_zero, List.set_cons_succ]
  refine wpAnyH_take (i := 31) (oi := { dst := some 79, op := Go.Op.load 23 (Go.Operand.tmp 8), type := 23, pos := "law.go:26", after := #[{ on := 30, ground := Go.Ground.guard }], guard := some (30, true) }) (v := (.agg #[.int .i64 k, .int .i64 n, .string s])) rfl (by kernel_rfl) (by kernel_rfl) (by kernel_rfl) (fun _ _ _ h => h) (Or.inl ⟨by rfl, fun W hW => ?_⟩) (Below.refl _ _) ?_
  · obtain ⟨a0, a1, a2, b0, b1, b2, c0, c1, c2, d0, d1, d2, hw⟩ := bx13.on hW; clear hw; go_simp
  try simp only [Act.put, List.setIfInBounds_toArray, List.set_cons_zero, List.set_cons_succ]
  refine wpAnyH_take (i := 32) (oi := { dst := some 80, op := Go.Op.load 23 (Go.Operand.tmp 11), type := 23, pos := "law.go:26", after := #[{ on := 30, ground := Go.Ground.guard }], guard := some (30, true) }) (v := (.agg #[.int .i64 k, .int .i64 n, .string s])) rfl (by kernel_rfl) (by kernel_rfl) (by kernel_rfl) (fun _ _ _ h => h) (Or.inl ⟨by rfl, fun W hW => ?_⟩) (Below.refl _ _) ?_
  · obtain ⟨a0, a1, a2, b0, b1, b2, c0, c1, c2, d0, d1, d2, hw⟩ := bx13.on hW; clear hw; go_simp
  try simp only [Act.put, List.setIfInBounds_toArray, List.set_cons_zero, List.set_cons_succ]
  refine wpAnyH_take (i := 33) (oi := { dst := some 81, op := Go.Op.binOp Go.BinOp.eql 23 (Go.Operand.tmp 79) (Go.Operand.tmp 80) 23, type := 4, pos := "law.go:26", after := #[{ on := 31, ground := Go.Ground.data }, { on := 32, ground := Go.Ground.data }, { on := 30, ground := Go.Ground.guard }], guard := some (30, true) }) (v := (.bool true)) rfl (by kernel_rfl) (by kernel_rfl) (by kernel_rfl) (fun _ _ _ h => h) (Or.inl ⟨by rfl, fun W hW => ?_⟩) (Below.refl _ _) ?_
  · go_simp
  try simp only [Act.put, List.setIfInBounds_toArray, List.set_cons_zero, List.set_cons_succ]
  refine wpAnyH_take (i := 34) (oi := { dst := some 82, op := Go.Op.pick (Go.Operand.tmp 78) (Go.Operand.tmp 81) (Go.Operand.const (Go.Value.bool false)), type := 4, pos := "law.go:26", after := #[{ on := 30, ground := Go.Ground.data }, { on := 33, ground := Go.Ground.data }], guard := none }) (v := (.bool true)) rfl (by kernel_rfl) (by kernel_rfl) (by kernel_rfl) (fun _ _ _ h => h) (Or.inl ⟨by rfl, fun W hW => ?_⟩) (Below.refl _ _) ?_
  · go_simp
  try simp only [Act.put, List.setIfInBounds_toArray, List.set_cons_zero, List.set_cons_succ]
  refine wpAnyH_take (i := 35) (oi := { dst := some 83, op := Go.Op.move (Go.Operand.tmp 82), type := 4, pos := "law.go:26", after := #[{ on := 34, ground := Go.Ground.data }, { on := 30, ground := Go.Ground.chain }], guard := none }) (v := (.bool true)) rfl (by kernel_rfl) (by kernel_rfl) (by kernel_rfl) (fun _ _ _ h => h) (Or.inl ⟨by rfl, fun W hW => ?_⟩) (Below.refl _ _) ?_
  · go_simp
  try simp only [Act.put, List.setIfInBounds_toArray, List.set_cons_zero, List.set_cons_succ]
  refine wpAnyH_take (i := 36) (oi := { dst := some 84, op := Go.Op.move (Go.Operand.tmp 9), type := 3, pos := "law.go:26", after := #[{ on := 35, ground := Go.Ground.guard }], guard := some (35, true) }) (v := (.int .i64 z)) rfl (by kernel_rfl) (by kernel_rfl) (by kernel_rfl) (fun _ _ _ h => h) (Or.inl ⟨by rfl, fun W hW => ?_⟩) (Below.refl _ _) ?_
  · go_simp
  try simp only [Act.put, List.setIfInBounds_toArray, List.set_cons_zero, List.set_cons_succ]
  refine wpAnyH_take (i := 37) (oi := { dst := some 85, op := Go.Op.move (Go.Operand.tmp 12), type := 3, pos := "law.go:26", after := #[{ on := 35, ground := Go.Ground.guard }], guard := some (35, true) }) (v := (.int .i64 z)) rfl (by kernel_rfl) (by kernel_rfl) (by kernel_rfl) (fun _ _ _ h => h) (Or.inl ⟨by rfl, fun W hW => ?_⟩) (Below.refl _ _) ?_
  · go_simp
  try simp only [Act.put, List.setIfInBounds_toArray, List.set_cons_zero, List.set_cons_succ]
  refine wpAnyH_take (i := 38) (oi := { dst := some 86, op := Go.Op.binOp Go.BinOp.eql 3 (Go.Operand.tmp 84) (Go.Operand.tmp 85) 3, type := 4, pos := "law.go:26", after := #[{ on := 36, ground := Go.Ground.data }, { on := 37, ground := Go.Ground.data }, { on := 35, ground := Go.Ground.guard }], guard := some (35, true) }) (v := (.bool true)) rfl (by kernel_rfl) (by kernel_rfl) (by kernel_rfl) (fun _ _ _ h => h) (Or.inl ⟨by rfl, fun W hW => ?_⟩) (Below.refl _ _) ?_
  · go_simp
  try simp only [Act.put, List.setIfInBounds_toArray, List.set_cons_zero, List.set_cons_succ]
  refine wpAnyH_take (i := 39) (oi := { dst := some 87, op := Go.Op.pick (Go.Operand.tmp 83) (Go.Operand.tmp 86) (Go.Operand.const (Go.Value.bool false)), type := 4, pos := "law.go:26", after := #[{ on := 35, ground := Go.Ground.data }, { on := 38, ground := Go.Ground.data }], guard := none }) (v := (.bool true)) rfl (by kernel_rfl) (by kernel_rfl) (by kernel_rfl) (fun _ _ _ h => h) (Or.inl ⟨by rfl, fun W hW => ?_⟩) (Below.refl _ _) ?_
  · go_simp
  try simp only [Act.put, List.setIfInBounds_toArray, List.set_cons_zero, List.set_cons_succ]
  refine wpAnyH_take (i := 40) (oi := { dst := some 88, op := Go.Op.move (Go.Operand.tmp 87), type := 4, pos := "law.go:26", after := #[{ on := 39, ground := Go.Ground.data }, { on := 35, ground := Go.Ground.chain }], guard := none }) (v := (.bool true)) rfl (by kernel_rfl) (by kernel_rfl) (by kernel_rfl) (fun _ _ _ h => h) (Or.inl ⟨by rfl, fun W hW => ?_⟩) (Below.refl _ _) ?_
  · go_simp
  try simp only [Act.put, List.setIfInBounds_toArray, List.set_cons_zero, List.set_cons_succ]
  refine wpAnyH_take (i := 41) (oi := { dst := some 89, op := Go.Op.move (Go.Operand.tmp 10), type := 26, pos := "law.go:26", after := #[{ on := 40, ground := Go.Ground.guard }], guard := some (40, true) }) (v := (.int .i64 er)) rfl (by kernel_rfl) (by kernel_rfl) (by kernel_rfl) (fun _ _ _ h => h) (Or.inl ⟨by rfl, fun W hW => ?_⟩) (Below.refl _ _) ?_
  · go_simp
  try simp only [Act.put, List.setIfInBounds_toArray, List.set_cons_zero, List.set_cons_succ]
  refine wpAnyH_take (i := 43) (oi := { dst := some 91, op := Go.Op.move (Go.Operand.tmp 13), type := 3, pos := "law.go:26", after := #[{ on := 40, ground := Go.Ground.guard }], guard := some (40, true) }) (v := (.int .i64 er)) rfl (by kernel_rfl) (by kernel_rfl) (by kernel_rfl) (fun _ _ _ h => h) (Or.inl ⟨by rfl, fun W hW => ?_⟩) (Below.refl _ _) ?_
  · go_simp
  try simp only [Act.put, List.setIfInBounds_toArray, List.set_cons_zero, List.set_cons_succ]
  refine wpAnyH_ready (rs := [42]) (by kernel_rfl) (by simp) ?_
  refine AllReadyH.cons (o := { dst := some 90, op := Go.Op.call { callee := Go.Callee.value (Go.Operand.func 17), args := #[Go.Operand.tmp 89], argTypes := #[26] }, type := 3, pos := "law.go:26", after := #[{ on := 41, ground := Go.Ground.data }, { on := 40, ground := Go.Ground.chain }, { on := 40, ground := Go.Ground.guard }], guard := some (40, true) }) rfl (fun K hK => ?_) AllReadyH.nil
  go_simp
  go_at_call 17
  (with_reducible refine (num_any _ _).mono ?_)
  rintro e w14 ⟨rfl, rfl⟩
  refine held_on hK (Below.refl _ _) ?_
  clear hK K
  try simp only [Act.put, List.setIfInBounds_toArray, List.set_cons_zero, List.set_cons_succ]
  refine wpAnyH_take (i := 44) (oi := { dst := some 92, op := Go.Op.binOp Go.BinOp.eql 3 (Go.Operand.tmp 90) (Go.Operand.tmp 91) 3, type := 4, pos := "law.go:26", after := #[{ on := 42, ground := Go.Ground.data }, { on := 43, ground := Go.Ground.data }, { on := 40, ground := Go.Ground.guard }], guard := some (40, true) }) (v := (.bool true)) rfl (by kernel_rfl) (by kernel_rfl) (by kernel_rfl) (fun _ _ _ h => h) (Or.inl ⟨by rfl, fun W hW => ?_⟩) (Below.refl _ _) ?_
  · go_simp
  try simp only [Act.put, List.setIfInBounds_toArray, List.set_cons_zero, List.set_cons_succ]
  refine wpAnyH_take (i := 45) (oi := { dst := some 93, op := Go.Op.pick (Go.Operand.tmp 88) (Go.Operand.tmp 92) (Go.Operand.const (Go.Value.bool false)), type := 4, pos := "law.go:26", after := #[{ on := 40, ground := Go.Ground.data }, { on := 44, ground := Go.Ground.data }], guard := none }) (v := (.bool true)) rfl (by kernel_rfl) (by kernel_rfl) (by kernel_rfl) (fun _ _ _ h => h) (Or.inl ⟨by rfl, fun W hW => ?_⟩) (Below.refl _ _) ?_
  · go_simp
  try simp only [Act.put, List.setIfInBounds_toArray, List.set_cons_zero, List.set_cons_succ]
  refine wpAnyH_take (i := 46) (oi := { dst := some 6, op := Go.Op.assign (Go.Operand.tmp 93), type := 4, pos := "law.go:26", after := #[{ on := 45, ground := Go.Ground.data }, { on := 42, ground := Go.Ground.chain }, { on := 0, ground := Go.Ground.phase }, { on := 1, ground := Go.Ground.phase }, { on := 2, ground := Go.Ground.phase }, { on := 3, ground := Go.Ground.phase }, { on := 4, ground := Go.Ground.phase }, { on := 5, ground := Go.Ground.phase }, { on := 6, ground := Go.Ground.phase }, { on := 7, ground := Go.Ground.phase }, { on := 8, ground := Go.Ground.phase }, { on := 9, ground := Go.Ground.phase }, { on := 10, ground := Go.Ground.phase }, { on := 11, ground := Go.Ground.phase }, { on := 12, ground := Go.Ground.phase }, { on := 13, ground := Go.Ground.phase }, { on := 14, ground := Go.Ground.phase }, { on := 15, ground := Go.Ground.phase }, { on := 16, ground := Go.Ground.phase }, { on := 17, ground := Go.Ground.phase }, { on := 18, ground := Go.Ground.phase }, { on := 19, ground := Go.Ground.phase }, { on := 20, ground := Go.Ground.phase }, { on := 21, ground := Go.Ground.phase }, { on := 22, ground := Go.Ground.phase }, { on := 23, ground := Go.Ground.phase }, { on := 24, ground := Go.Ground.phase }, { on := 25, ground := Go.Ground.phase }, { on := 26, ground := Go.Ground.phase }, { on := 27, ground := Go.Ground.phase }, { on := 28, ground := Go.Ground.phase }, { on := 29, ground := Go.Ground.phase }, { on := 30, ground := Go.Ground.phase }, { on := 31, ground := Go.Ground.phase }, { on := 32, ground := Go.Ground.phase }, { on := 33, ground := Go.Ground.phase }, { on := 34, ground := Go.Ground.phase }, { on := 35, ground := Go.Ground.phase }, { on := 36, ground := Go.Ground.phase }, { on := 37, ground := Go.Ground.phase }, { on := 38, ground := Go.Ground.phase }, { on := 39, ground := Go.Ground.phase }, { on := 40, ground := Go.Ground.phase }, { on := 41, ground := Go.Ground.phase }, { on := 42, ground := Go.Ground.phase }, { on := 43, ground := Go.Ground.phase }, { on := 44, ground := Go.Ground.phase }, { on := 45, ground := Go.Ground.phase }], guard := none }) (v := (.bool true)) rfl (by kernel_rfl) (by kernel_rfl) (by kernel_rfl) (fun _ _ _ h => h) (Or.inl ⟨by rfl, fun W hW => ?_⟩) (Below.refl _ _) ?_
  · go_simp
  try simp only [Act.put, List.setIfInBounds_toArray, List.set_cons_zero, List.set_cons_succ]
  refine wpAnyH_done (by kernel_rfl) ?_ _
  simp only [Exit.then]
  go_wp2
  go_ret
  exact ⟨rfl, bx13.low⟩

end Go.Proofs.YtaojlcgcghdlmaaDoor
