/- The law ValueBack: what is written is read back, whatever stands behind, and from no proper beginning. -/
import Derived.Test.YtaojlcgcghdlmaaDoorBackP
import Derived.Lib.BufferRead
import Derived.Lib.BufferWrite
namespace Go.Proofs.YtaojlcgcghdlmaaDoor
open Go.RowKit

/-- One box lies in a world. -/
def One (w : World) (k n : Int) (s : ByteArray) (W : World) : Prop :=
  W.cell? ⟨w.heap.size, 0, none⟩ = some (.int .i64 k) ∧ W.cell? ⟨w.heap.size, 1, none⟩ = some (.int .i64 n) ∧ W.cell? ⟨w.heap.size, 2, none⟩ = some (.string s) ∧ Below w.heap.size w W ∧ Glob W
theorem One.on {w W W' : World} {k n : Int} {s : ByteArray} (h : One w k n s W) (hb : Below W.heap.size W W') : One w k n s W' :=
  ⟨kc hb h.1, kc hb h.2.1, kc hb h.2.2.1, h.2.2.2.1.trans (hb.mono h.2.2.2.1.size), h.2.2.2.2.below hb⟩
theorem One.cells {w W : World} {k n : Int} {s : ByteArray} (h : One w k n s W) : W.cell? ⟨w.heap.size, 0, none⟩ = some (.int .i64 k) ∧ W.cell? ⟨w.heap.size, 1, none⟩ = some (.int .i64 n) ∧ W.cell? ⟨w.heap.size, 2, none⟩ = some (.string s) :=
  ⟨h.1, h.2.1, h.2.2.1⟩
theorem One.below {w W : World} {k n : Int} {s : ByteArray} (h : One w k n s W) : Below w.heap.size w W := h.2.2.2.1
theorem One.glob {w W : World} {k n : Int} {s : ByteArray} (h : One w k n s W) : Glob W := h.2.2.2.2
theorem one_new (w : World) (hg : Glob w) (k n : Int) (s : ByteArray) : One w k n s (w.alloc (.cells #[.int .i64 k, .int .i64 n, .string s] 23)) :=
  ⟨by go_simp, by go_simp, by go_simp, below_new w _, hg.alloc _⟩

/-- Bytes that a call has built and answered: where they lie. -/
theorem own_shape {v : Value} {l : List UInt8} {W0 w : World} (h : Own W0.heap.size 5 1 v l.length (Lib.byteCells l) W0 w) (hp : 0 < l.length) :
    ∃ g c, v = .slice (some ⟨g, 0, none⟩) l.length c ∧ c ≤ maxLen ∧ l.length ≤ c ∧ BySl w w.heap.size v l ∧ Below W0.heap.size W0 w := by
  have hs := h.slAt
  rcases h.1.2 with ⟨rfl, h0⟩ | ⟨g, cap, cur, rfl, hbg, hh, hnc, hcm, _⟩
  · omega
  · exact ⟨g, cap, rfl, hcm, hnc, hs, h.below⟩

theorem le_q3 {q L c : Nat} (h : q < L) (h' : L ≤ c) : (q : Int) ≤ (c : Int) := by omega
theorem le_q3n {q L c : Nat} (h : q < L) (h' : L ≤ c) : q ≤ c := by omega
theorem base_on {w3 w5 w6 : World} (o : Obj) (h : Below w3.heap.size w3 w5) (hs : w3.heap.size ≤ w5.heap.size) (hb : Below w5.heap.size w5 w6) : Below w3.heap.size w3 (w6.alloc o) ∧ w3.heap.size ≤ (w6.alloc o).heap.size := by
  have h1 := h.trans (hb.mono hs)
  have h2 : w3.heap.size ≤ w6.heap.size := Nat.le_trans hs hb.size
  exact ⟨h1.trans ((below_new w6 o).mono h2), by simp; omega⟩
/-- A beginning of bytes. -/
theorem bySl_take {w : World} {B b o c : Nat} {l : List UInt8} (h : BySl w B (.slice (some ⟨b, o, none⟩) l.length c) l) (q : Nat) (hq : q ≤ l.length) : BySl w B (.slice (some ⟨b, o, none⟩) q c) (l.take q) := by
  have hl : (l.take q).length = q := by rw [List.length_take]; omega
  rcases Nat.eq_zero_or_pos q with h0 | h0
  · subst h0
    exact ⟨by simp [Lib.byteCells], .inl ⟨by simp, _, _, rfl⟩⟩
  rcases h.parts with ⟨he, _⟩ | ⟨b', o', c', hv, _, hc, hB, hx⟩
  · subst he; simp at hq; omega
  · injection hv with h1 h2 h3
    injection h1 with h1
    injection h1 with h4 h5
    subst h3 h4 h5
    have := BySl.of (w := w) (B := B) (b := b) (o := o) (c := c) (l := l.take q) (by omega) hB (fun i hi => by
      have hil : i < l.length := by omega
      rw [hx i hil, List.getElem_take])
    rwa [hl] at this

theorem Own.cap' {B : Nat} {e : TypeId} {sz : Nat} {v : Value} {n : Nat} {xs : List Value} {W0 w : World} (h : Own B e sz v n xs W0 w) : ∀ A m c, v = .slice A m c → c ≤ maxLen := by
  intro A m c hv
  rcases h.1.2 with ⟨rfl, _⟩ | ⟨g, cap, cur, rfl, _, _, _, hc, _⟩
  · injection hv with _ _ h3; subst h3; unfold maxLen; omega
  · injection hv with _ _ h3; subst h3; exact hc
theorem own_bysl2 {B : Nat} {v : Value} {a b : List UInt8} {W0 w : World} (h : Own B 5 1 v (0 + a.length + b.length) ([] ++ Lib.byteCells a ++ Lib.byteCells b) W0 w) : BySl w w.heap.size v (a ++ b) := by
  have := h.slAt
  rw [Nat.zero_add, List.nil_append, ← Lib.byteCells_append, ← List.length_append] at this
  exact this

set_option maxHeartbeats 1000000 in
theorem valueBack_any (k n : Int) (s : ByteArray) (A : Option Addr) (c : Nat) (l : List UInt8) (cut : Int) (w : World) (hg : Glob w) (h0 : -9223372036854775808 ≤ n) (h1 : n ≤ 9223372036854775807)
    (hl : BySl w w.heap.size (.slice A l.length c) l) (_hc : c ≤ maxLen) (hcut : cut ≤ 9223372036854775807) :
    Calls Tryd.prog 4 #[.agg #[.int .i64 k, .int .i64 n, .string s], .slice A l.length c, .int .i64 cut] w fun e w' => e = .returned (.bool true) ∧ Below w.heap.size w w' := by
  have on0 := one_new w hg k n s
  cases g1 : rightB k n s
  · go_enter Tryd.func4, Tryd.ntmps4
    go_wp2_with (first | (go_at_call 6; ((with_reducible refine (alive_any _ on0.glob).mono ?_); rintro e w1 ⟨rfl, hb1⟩; have on1 := on0.on hb1; obtain ⟨a0, a1, a2⟩ := on1.cells)) | (go_at_call 10; ((with_reducible refine (rrightv_any k n s _).mono ?_); rintro e w2 ⟨rfl, hb2⟩; have on2 := on1.on hb2; obtain ⟨b0, b1, b2⟩ := on2.cells)))
    go_ret
    exact ⟨rfl, on2.below⟩
  by_cases g2 : 100 < (l.length : Int)
  · go_enter Tryd.func4, Tryd.ntmps4
    go_wp2_with (first | (go_at_call 6; ((with_reducible refine (alive_any _ on0.glob).mono ?_); rintro e w1 ⟨rfl, hb1⟩; have on1 := on0.on hb1; obtain ⟨a0, a1, a2⟩ := on1.cells)) | (go_at_call 10; ((with_reducible refine (rrightv_any k n s _).mono ?_); rintro e w2 ⟨rfl, hb2⟩; have on2 := on1.on hb2; obtain ⟨b0, b1, b2⟩ := on2.cells)))
    go_ret
    exact ⟨rfl, on2.below⟩
  by_cases g3 : cut < 0
  · go_enter Tryd.func4, Tryd.ntmps4
    go_wp2_with (first | (go_at_call 6; ((with_reducible refine (alive_any _ on0.glob).mono ?_); rintro e w1 ⟨rfl, hb1⟩; have on1 := on0.on hb1; obtain ⟨a0, a1, a2⟩ := on1.cells)) | (go_at_call 10; ((with_reducible refine (rrightv_any k n s _).mono ?_); rintro e w2 ⟨rfl, hb2⟩; have on2 := on1.on hb2; obtain ⟨b0, b1, b2⟩ := on2.cells)))
    go_ret
    exact ⟨rfl, on2.below⟩
  obtain ⟨i0, hi0, hz0, hz1, hz2⟩ := info_parts info_u8
  obtain ⟨lb, hlb⟩ : ∃ lb, lb = bytesV k n s := ⟨_, rfl⟩
  have hp : 0 < lb.length := hlb ▸ bytesV_pos g1
  have hle : lb.length ≤ 300 := hlb ▸ bytesV_le
  have HB : Hid (∀ W : World, Calls Tryd.prog 15 #[.agg #[.int .i64 k, .int .i64 n, .string s]] W fun e w' => ∃ g c, e = .returned (.slice (some ⟨g, 0, none⟩) lb.length c) ∧ c ≤ maxLen ∧ lb.length ≤ c ∧ BySl w' w'.heap.size (.slice (some ⟨g, 0, none⟩) lb.length c) lb ∧ Below W.heap.size W w') :=
    fun W => (bytes_any k n s W).mono fun e w' ⟨v, he, ho⟩ => by
      rw [← hlb] at ho
      obtain ⟨g, c, rfl, a1, a2, a3, a4⟩ := own_shape ho hp
      exact ⟨g, c, he, a1, a2, a3, a4⟩
  have HR1 : Hid (∀ (B : Nat) (v : Value) (W0 W : World), Own B 5 1 v (0 + lb.length + l.length) ([] ++ Lib.byteCells lb ++ Lib.byteCells l) W0 W → Calls Tryd.prog 7 #[v] W fun e w' => e = .returned (.tuple #[.agg #[.int .i64 k, .int .i64 n, .string s], .int .i64 lb.length, .int .i64 0]) ∧ Below W.heap.size W w') :=
    fun B v W0 W ho => by
      have := read_any W.heap.size v (lb ++ l) W (own_bysl2 ho) (Nat.le_refl _) ho.cap'
      rw [hlb, readV_back g1 h0 h1] at this
      rw [hlb]
      exact this
  obtain ⟨q, hq⟩ : ∃ q : Nat, q = (cut.tmod lb.length).toNat := ⟨_, rfl⟩
  have hqe : cut.tmod lb.length = (q : Int) := by rw [hq, Int.toNat_of_nonneg (Int.tmod_nonneg _ (by omega))]
  have hql : q < lb.length := by
    have := Int.tmod_lt_of_pos cut (show (0 : Int) < lb.length by omega)
    omega
  have HR2 : Hid (∀ (B g c : Nat) (W : World), BySl W B (.slice (some ⟨g, 0, none⟩) lb.length c) lb → B ≤ W.heap.size → c ≤ maxLen → Calls Tryd.prog 7 #[.slice (some ⟨g, 0, none⟩) q c] W fun e w' => e = .returned (.tuple #[.agg #[.int .i64 0, .int .i64 0, .string ⟨#[]⟩], .int .i64 0, .int .i64 2]) ∧ Below W.heap.size W w') :=
    fun B g c W h hB hm => by
      have := read_any B _ _ W (bySl_take h q (by omega)) hB (fun A n c' e => by injection e with _ _ e; omega)
      rw [hlb, readV_short g1 q (by rw [← hlb]; exact hql)] at this
      exact this
  clear hlb hq
  have hne : ¬ ((lb.length : Int) = 0) := by omega
  have hnil : ¬ lb = [] := by intro e; subst e; simp at hp
  have hq0 : (0 : Int) ≤ (q : Int) := by omega
  have hL9 : 0 + lb.length ≤ maxLen := by unfold maxLen; omega
  have hL8 : (0 + lb.length) * 1 ≤ 140737488355328 := by omega
  have hM9 : 0 + lb.length + l.length ≤ maxLen := by unfold maxLen; omega
  have hM8 : (0 + lb.length + l.length) * 1 ≤ 140737488355328 := by omega
  have h1b : ∀ u ∈ Lib.byteCells lb, u.oneCell' = true := Lib.byteCells_one lb
  have h1m : ∀ u ∈ Lib.byteCells l, u.oneCell' = true := Lib.byteCells_one l
  have HM := Lib.hid hl
  clear hl hp hle
  go_enter Tryd.func4, Tryd.ntmps4
  go_wp2_with (first | (go_at_call 6; ((with_reducible refine (alive_any _ on0.glob).mono ?_); rintro e w1 ⟨rfl, hb1⟩; have on1 := on0.on hb1; obtain ⟨a0, a1, a2⟩ := on1.cells)) | (go_at_call 10; ((with_reducible refine (rrightv_any k n s _).mono ?_); rintro e w2 ⟨rfl, hb2⟩; have on2 := on1.on hb2; obtain ⟨b0, b1, b2⟩ := on2.cells)) | (go_at_call 15; ((refine (HB.out _).mono ?_); rintro e w3 ⟨g, c3, rfl, hc3, hlc3, hs3, hb3⟩; have on3 := on2.on hb3; have hqc := le_q3 hql hlc3; have hqn := le_q3n hql hlc3; obtain ⟨d0, d1, d2⟩ := on3.cells; have HS3 := Lib.hid hs3; clear hs3)) | (at_builtin; refine wpList_own_any rfl (.const (.slice none 0 0)) (.tmp 39) 24 rfl i0 (.int .u8 0) 1 Tryd.underlying24 hi0 hz0 hz1 hz2 rfl (by decide) rfl (Own.nil (Below.refl w3.heap.size w3) (Nat.le_refl _)) rfl HS3.out h1b hL9 hL8 ?_; intro v4 w4 ho4; have HO4 := Lib.hid ho4; clear ho4) | (at_builtin; refine wpList_own_any rfl (.tmp 40) (.tmp 41) 24 rfl i0 (.int .u8 0) 1 Tryd.underlying24 hi0 hz0 hz1 hz2 rfl (by decide) rfl HO4.out rfl ((HM.out.on on3.below).on (HO4.out.below.mono on3.below.size)) h1m hM9 hM8 ?_; intro v5 w5 ho5; have on5 := on3.on ho5.below; have HO5 := Lib.hid ho5; clear ho5) | (go_at_call 7; (with_reducible refine (HR1.out _ _ _ _ HO5.out).mono ?_); rintro e w6 ⟨rfl, hb6⟩; have on6 := on5.on hb6; have on7 := on6.on (below_new w6 (.cells #[.int .i64 k, .int .i64 n, .string s] 23)); have HS7 := Lib.hid (HS3.out.on (base_on (.cells #[.int .i64 k, .int .i64 n, .string s] 23) HO5.out.below HO5.out.size hb6).1); have HZ7 := Lib.hid (base_on (.cells #[.int .i64 k, .int .i64 n, .string s] 23) HO5.out.below HO5.out.size hb6).2) | (go_at_call 7; (with_reducible refine (HR2.out w3.heap.size g c3 _ HS7.out HZ7.out hc3).mono ?_); rintro e w8 ⟨rfl, hb8⟩; have on9 := (on7.on hb8).on (below_new w8 (.cells #[.int .i64 0, .int .i64 0, .string ⟨#[]⟩] 23)); obtain ⟨e0, e1, e2⟩ := on9.cells; obtain ⟨f0, f1, f2⟩ := vbox hb8; have f3 := kc (below_new w8 (.cells #[.int .i64 0, .int .i64 0, .string ⟨#[]⟩] 23)) f0; have f4 := kc (below_new w8 (.cells #[.int .i64 0, .int .i64 0, .string ⟨#[]⟩] 23)) f1; have f5 := kc (below_new w8 (.cells #[.int .i64 0, .int .i64 0, .string ⟨#[]⟩] 23)) f2) | (go_at_call 17; (with_reducible refine (num_any _ _).mono ?_); rintro e w14 ⟨rfl, rfl⟩))
  go_ret
  exact ⟨rfl, on9.below⟩

end Go.Proofs.YtaojlcgcghdlmaaDoor
