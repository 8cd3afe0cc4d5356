/- What functions, signs and reckonings tell is always a value that may be. No program is named here. -/
import Derived.Test.YtfngpfnbhafmlaaGreatDoorMG
import Derived.Test.YtfngpfnbhafmlaaGreatDoorML
import Derived.Test.YtfngpfnbhafmlaaGreatDoorMT
namespace Go.Proofs.YtfngpfnbhafmlaaGreatDoor
open Go Go.RowKit
set_option linter.unusedSimpArgs false
def RB (v : T3) : Prop := rightB v.1 v.2.1 v.2.2 = true
theorem rb_err {c : Int} (h1 : 1 ≤ c) (h7 : c ≤ 7) : RB (4, c, ⟨#[]⟩) := by
 unfold RB rightB
 simp [h1, h7]
theorem rb_e1 : RB (4, 1, ⟨#[]⟩) := rb_err (by decide) (by decide)
theorem rb_e2 : RB (4, 2, ⟨#[]⟩) := rb_err (by decide) (by decide)
theorem rb_e3 : RB (4, 3, ⟨#[]⟩) := rb_err (by decide) (by decide)
theorem rb_e5 : RB (4, 5, ⟨#[]⟩) := rb_err (by decide) (by decide)
theorem rb_e6 : RB (4, 6, ⟨#[]⟩) := rb_err (by decide) (by decide)
theorem rb_e7 : RB (4, 7, ⟨#[]⟩) := rb_err (by decide) (by decide)
theorem rb_num (n : Int) : RB (1, n, ⟨#[]⟩) := by simp [RB, rightB]
theorem rb_bool (b : Bool) : RB (boolW b) := by cases b <;> simp [RB, rightB, boolW]
theorem rb_text (s : ByteArray) : RB (textW s) := by
 unfold textW
 split
 · rename_i h
   have : (s.size : Int) ≤ 200 := by omega
   simp [RB, rightB, this]
 · exact rb_err (by decide) (by decide)
theorem rb_fit (x : Int) : RB (fitV x) := by
 unfold fitV
 split
 · exact rb_num x
 · exact rb_err (by decide) (by decide)
theorem rb_reckon (op : ByteArray) (a b : Int) : RB (reckonW op a b) := by
 unfold reckonW
 repeat' split
 all_goals first | with_reducible exact rb_fit _ | with_reducible exact rb_e3 | with_reducible exact rb_e1 | with_reducible exact rb_e2 | with_reducible exact rb_e5 | with_reducible exact rb_e6 | with_reducible exact rb_e7
theorem rb_pair (op : ByteArray) (k n : Int) (s : ByteArray) (k' n' : Int) (s' : ByteArray) : RB (pairW op k n s k' n' s') := by
 unfold pairW
 by_cases h : rightB k n s = false ∨ rightB k' n' s' = false
 · rw [if_pos h]; exact rb_err (by decide) (by decide)
 rw [if_neg h]
 have h1 : RB (k, n, s) := by
  show rightB k n s = true
  cases e : rightB k n s with
  | true => rfl
  | false => exact absurd (.inl e) h
 have h2 : RB (k', n', s') := by
  show rightB k' n' s' = true
  cases e : rightB k' n' s' with
  | true => rfl
  | false => exact absurd (.inr e) h
 repeat' split
 all_goals first | with_reducible exact h1 | with_reducible exact h2 | with_reducible exact rb_reckon _ _ _ | with_reducible exact rb_text _ | with_reducible exact rb_bool _ | with_reducible exact rb_e3 | with_reducible exact rb_e1 | with_reducible exact rb_e2 | with_reducible exact rb_e5 | with_reducible exact rb_e6 | with_reducible exact rb_e7
theorem rb_plain (k n : Int) (s : ByteArray) : RB (plainW k n s) := by
 unfold plainW
 split
 · rename_i h; exact h
 · exact rb_err (by decide) (by decide)
theorem rb_plainT (v : T3) : RB (plainT v) := rb_plain _ _ _
theorem rb_num_some {k n : Int} {s : ByteArray} {w : T3} (h : numE k n s = some w) : RB w := by
 unfold numE at h
 by_cases h1 : rightB k n s = false
 · rw [if_pos h1] at h; cases h; exact rb_err (by decide) (by decide)
 rw [if_neg h1] at h
 have h2 : rightB k n s = true := by simpa using h1
 split at h
 · cases h
 split at h
 · cases h; exact h2
 · cases h; exact rb_err (by decide) (by decide)
theorem rb_fault : ∀ {l : List T3}, (∀ e, faultL l = some e → RB e) ∧ (faultL l = none → ∀ v ∈ l, RB v)
 | [] => ⟨fun e h => (by cases h), fun _ v hv => (by cases hv)⟩
 | v :: l => by
   have ih := rb_fault (l := l)
   unfold faultL
   by_cases h1 : rightB v.1 v.2.1 v.2.2 = false
   · rw [if_pos h1]
     exact ⟨fun e h => by cases h; exact rb_err (by decide) (by decide), fun h => by cases h⟩
   have h2 : RB v := by simpa [RB] using h1
   rw [if_neg h1]
   by_cases h4 : v.1 = 4
   · rw [if_pos h4]
     exact ⟨fun e h => by cases h; exact h2, fun h => by cases h⟩
   rw [if_neg h4]
   refine ⟨ih.1, fun h x hx => ?_⟩
   rcases List.mem_cons.1 hx with rfl | hx
   · exact h2
   · exact ih.2 h x hx
theorem rb_sum (l : List T3) : RB (sumL l).1 := by
 unfold sumL
 have key : ∀ (l : List T3) (a : T3 × Nat), RB a.1 → RB (l.foldl sumStep a).1 := by
  intro l
  induction l with
  | nil => exact fun a h => h
  | cons v l ih =>
    intro a ha
    refine ih _ ?_
    unfold sumStep
    split
    · exact rb_pair _ _ _ _ _ _ _
    · exact ha
 exact key l _ (rb_num 0)
theorem ite_or {α : Type} {P : Prop} [Decidable P] (a b : α) : (if P then a else b) = a ∨ (if P then a else b) = b := by
 by_cases h : P
 · exact .inl (if_pos h)
 · exact .inr (if_neg h)
theorem rb_best (mn : Bool) {l : List T3} (h : ∀ v ∈ l, RB v) : RB (bestL mn l).1 := by
 unfold bestL
 have key : ∀ (l : List T3) (a : T3 × Bool), (∀ v ∈ l, RB v) → RB a.1 → RB (l.foldl (bestStep mn) a).1 := by
  intro l
  induction l with
  | nil => exact fun a _ h => h
  | cons v l ih =>
    intro a hl ha
    refine ih _ (fun x hx => hl x (List.mem_cons_of_mem _ hx)) ?_
    have e : bestStep mn a v = (v, false) ∨ bestStep mn a v = a := ite_or _ _
    rcases e with e | e <;> rw [e]
    · exact hl v (List.mem_cons_self ..)
    · exact ha
 exact key l _ h (rb_num 0)
theorem rb_bL (f : Bool → Bool → Bool) : ∀ (acc : Bool) (l : List T3), RB (bL f acc l)
 | acc, [] => rb_bool acc
 | acc, x :: l => by
   unfold bL
   by_cases h : x.1 = 3 ∨ x.1 = 0
   · rw [if_pos h]; exact rb_bL f _ l
   · rw [if_neg h]; exact rb_e3
theorem rb_many (name : ByteArray) (l : List T3) : RB (manyW name l) := by
 unfold manyW
 cases h : faultL l with
 | some e => exact rb_fault.1 e h
 | none =>
   have hl := rb_fault.2 h
   simp only
   repeat' split
   all_goals first | with_reducible exact rb_sum l | with_reducible exact rb_num _ | with_reducible exact rb_text _ | with_reducible exact rb_best _ hl | skip
   · unfold avgW
     split
     · exact rb_err (by decide) (by decide)
     · exact rb_pair _ _ _ _ _ _ _
   all_goals exact rb_bL _ _ _
theorem rb_one (name : ByteArray) (k n : Int) (s : ByteArray) : RB (oneW name k n s) := by
 unfold oneW
 repeat' split
 all_goals first | with_reducible exact rb_bool _ | with_reducible exact rb_e3 | with_reducible exact rb_e1 | with_reducible exact rb_e2 | with_reducible exact rb_e5 | with_reducible exact rb_e6 | with_reducible exact rb_e7 | with_reducible exact rb_num _ | with_reducible exact rb_text _ | (rename_i h; with_reducible exact rb_num_some h) | skip
 · unfold absW
   split
   · exact rb_pair _ _ _ _ _ _ _
   · exact rb_num _
 · unfold signW
   repeat' split
   all_goals exact rb_num _
theorem rb_two (name : ByteArray) (a b : T3) : RB (twoW name a b) := by
 unfold twoW
 repeat' split
 all_goals first | with_reducible exact rb_e3 | with_reducible exact rb_e1 | with_reducible exact rb_e2 | with_reducible exact rb_e5 | with_reducible exact rb_e6 | with_reducible exact rb_e7 | (rename_i h; with_reducible exact rb_num_some h) | skip
 · unfold findS
   split
   · exact rb_num _
   · exact rb_err (by decide) (by decide)
 · unfold modW
   repeat' split
   all_goals first | with_reducible exact rb_num _ | with_reducible exact rb_e3 | with_reducible exact rb_e1 | with_reducible exact rb_e2 | with_reducible exact rb_e5 | with_reducible exact rb_e6 | with_reducible exact rb_e7
 · unfold leftW
   split <;> exact rb_text _
theorem rb_mid (a b c : T3) : RB (midW a b c) := by
 unfold midW
 repeat' split
 all_goals first | with_reducible exact rb_e3 | with_reducible exact rb_e1 | with_reducible exact rb_e2 | with_reducible exact rb_e5 | with_reducible exact rb_e6 | with_reducible exact rb_e7 | with_reducible exact rb_text _ | (rename_i h; with_reducible exact rb_num_some h)
theorem rb_mL (v : T3) : ∀ (l : List T3) (i : Nat), RB (mL v i l)
 | [], i => rb_err (by decide) (by decide)
 | x :: l, i => by
   unfold mL
   split
   · exact rb_num _
   · exact rb_mL v l (i + 1)
theorem rb_lazy (name : ByteArray) (l : List RW) : RB (lazyW name l) := by
 unfold lazyW matchW ifW chooseW
 repeat' split
 all_goals first | with_reducible exact rb_e3 | with_reducible exact rb_e1 | with_reducible exact rb_e2 | with_reducible exact rb_e5 | with_reducible exact rb_e6 | with_reducible exact rb_e7 | with_reducible exact rb_mL _ _ _ | with_reducible exact rb_plainT _ | (rename_i h; with_reducible exact rb_fault.1 _ h) | (rename_i h; with_reducible exact rb_num_some h)
theorem rb_call (name : ByteArray) (l : List RW) : RB (callW name l) := by
 unfold callW withL one1 two2 mid3
 repeat' split
 all_goals first | with_reducible exact rb_many _ _ | with_reducible exact rb_num _ | with_reducible exact rb_lazy _ _ | with_reducible exact rb_bool _ | with_reducible exact rb_one _ _ _ _ | with_reducible exact rb_two _ _ _ | with_reducible exact rb_mid _ _ _ | with_reducible exact rb_e3 | with_reducible exact rb_e1 | with_reducible exact rb_e2 | with_reducible exact rb_e5 | with_reducible exact rb_e6 | with_reducible exact rb_e7 | (rename_i h; with_reducible exact rb_fault.1 _ h)
def IR (v : T3) : Prop := inR v.2.1
theorem ir_c {k n : Int} {s : ByteArray} (h : -1000000000000 ≤ n) (h' : n ≤ 1000000000000) : IR (k, n, s) := by unfold IR inR; simp only; omega
theorem ir_e1 : IR (4, 1, ⟨#[]⟩) := ir_c (by decide) (by decide)
theorem ir_e2 : IR (4, 2, ⟨#[]⟩) := ir_c (by decide) (by decide)
theorem ir_e3 : IR (4, 3, ⟨#[]⟩) := ir_c (by decide) (by decide)
theorem ir_e5 : IR (4, 5, ⟨#[]⟩) := ir_c (by decide) (by decide)
theorem ir_e6 : IR (4, 6, ⟨#[]⟩) := ir_c (by decide) (by decide)
theorem ir_e7 : IR (4, 7, ⟨#[]⟩) := ir_c (by decide) (by decide)
theorem ir_bool (b : Bool) : IR (boolW b) := by cases b <;> exact ir_c (by decide) (by decide)
theorem ir_text (s : ByteArray) : IR (textW s) := by
 unfold textW
 split
 · exact ir_c (by decide) (by decide)
 · exact ir_e1
theorem ir_fit (x : Int) : IR (fitV x) := fitV_in x
theorem ir_reckon (op : ByteArray) (a b : Int) : IR (reckonW op a b) := by
 unfold reckonW
 repeat' split
 all_goals first | with_reducible exact ir_fit _ | with_reducible exact ir_e2
theorem ir_pair {op : ByteArray} {k n : Int} {s : ByteArray} {k' n' : Int} {s' : ByteArray} (h : inR n) (h' : inR n') : IR (pairW op k n s k' n' s') := by
 have h1 : IR (k, n, s) := h
 have h2 : IR (k', n', s') := h'
 unfold pairW
 by_cases h0 : rightB k n s = false ∨ rightB k' n' s' = false
 · rw [if_pos h0]; exact ir_e3
 rw [if_neg h0]
 repeat' split
 all_goals first | with_reducible exact h1 | with_reducible exact h2 | with_reducible exact ir_reckon _ _ _ | with_reducible exact ir_text _ | with_reducible exact ir_bool _ | with_reducible exact ir_e3 | with_reducible exact ir_e1 | with_reducible exact ir_e2 | with_reducible exact ir_e5 | with_reducible exact ir_e6 | with_reducible exact ir_e7
theorem ir_plainT {v : T3} (h : IR v) : IR (plainT v) := by
 obtain ⟨k, n, s⟩ := v
 have h1 : IR (k, n, s) := h
 unfold plainT plainW
 split
 · exact h1
 · exact ir_e3
theorem ir_num_some {k n : Int} {s : ByteArray} {w : T3} (h : numE k n s = some w) (hn : inR n) : IR w := by
 unfold numE at h
 split at h
 · cases h; exact ir_e3
 split at h
 · cases h
 split at h
 · cases h; exact hn
 · cases h; exact ir_e3
theorem ir_fault : ∀ {l : List T3}, (∀ v ∈ l, IR v) → ∀ e, faultL l = some e → IR e
 | [], _, e, h => by cases h
 | v :: l, hl, e, h => by
   unfold faultL at h
   split at h
   · cases h; exact ir_e3
   split at h
   · cases h; exact hl _ (List.mem_cons_self ..)
   · exact ir_fault (fun x hx => hl x (List.mem_cons_of_mem _ hx)) e h
theorem ir_best (mn : Bool) {l : List T3} (h : ∀ v ∈ l, IR v) : IR (bestL mn l).1 := by
 unfold bestL
 have key : ∀ (l : List T3) (a : T3 × Bool), (∀ v ∈ l, IR v) → IR a.1 → IR (l.foldl (bestStep mn) a).1 := by
  intro l
  induction l with
  | nil => exact fun a _ h => h
  | cons v l ih =>
    intro a hl ha
    refine ih _ (fun x hx => hl x (List.mem_cons_of_mem _ hx)) ?_
    have e : bestStep mn a v = (v, false) ∨ bestStep mn a v = a := ite_or _ _
    rcases e with e | e <;> rw [e]
    · exact hl v (List.mem_cons_self ..)
    · exact ha
 exact key l _ h (ir_c (by decide) (by decide))
theorem ir_bL (f : Bool → Bool → Bool) : ∀ (acc : Bool) (l : List T3), IR (bL f acc l)
 | acc, [] => ir_bool acc
 | acc, x :: l => by
   unfold bL
   by_cases h : x.1 = 3 ∨ x.1 = 0
   · rw [if_pos h]; exact ir_bL f _ l
   · rw [if_neg h]; exact ir_e3
theorem ir_many (name : ByteArray) {l : List T3} (hl : ∀ v ∈ l, IR v) (hlen : l.length ≤ 1000000) : IR (manyW name l) := by
 have hs := sumL_in hl
 have hc : inR ((sumL l).2 : Int) := by unfold inR; omega
 unfold manyW
 cases h : faultL l with
 | some e => exact ir_fault hl e h
 | none =>
   simp only
   split
   · exact hs.1
   split
   · exact hc
   split
   · unfold avgW
     split
     · exact ir_e2
     · exact ir_pair hs.1 hc
   split
   · exact ir_text _
   split
   · exact ir_bL _ _ _
   split
   · exact ir_bL _ _ _
   · exact ir_best _ hl
theorem ir_one (name : ByteArray) {k n : Int} (s : ByteArray) (hn : inR n) : IR (oneW name k n s) := by
 have hz := showB_size (k := k) (s := s) hn
 unfold oneW
 split
 · split
   · exact ir_bool _
   · exact ir_e3
 split
 · exact ir_c (by omega) (by omega)
 split
 · exact ir_text _
 split
 · exact ir_text _
 split
 · exact ir_bool _
 split
 · rename_i h; exact ir_num_some h hn
 split
 · unfold absW
   split
   · exact ir_pair inR_0 hn
   · exact hn
 · unfold signW
   repeat' split
   all_goals exact ir_c (by decide) (by decide)
theorem tmod_in {x y : Int} (h : inR x) : inR (x.tmod y) := by
 have hn : (x.tmod y).natAbs ≤ x.natAbs := by rw [Int.natAbs_tmod]; exact Nat.mod_le _ _
 unfold inR at *
 by_cases hx : 0 ≤ x
 · have h1 := Int.tmod_nonneg y hx
   omega
 · have h1 : (-x).tmod y = -(x.tmod y) := Int.neg_tmod ..
   have h2 := Int.tmod_nonneg (a := -x) y (by omega)
   omega
theorem ir_two (name : ByteArray) {a b : T3} (ha : IR a) (hb : IR b) : IR (twoW name a b) := by
 have hz := showB_size (k := b.1) (s := b.2.2) hb
 unfold twoW
 split
 · unfold findS
   split
   · rename_i i h
     obtain ⟨_, h2, _⟩ := List.find?_range_eq_some.1 h
     have h2 := List.mem_range.1 h2
     exact ir_c (by omega) (by omega)
   · exact ir_e7
 split
 · split
   · rename_i h; exact ir_num_some h ha
   split
   · rename_i h; exact ir_num_some h hb
   unfold modW
   split
   · exact ir_e2
   split
   · exact ir_c (by decide) (by decide)
   · exact tmod_in ha
 split
 · rename_i h; exact ir_num_some h hb
 split
 · exact ir_e3
 · unfold leftW
   split <;> exact ir_text _
theorem ir_mid {a b c : T3} (hb : IR b) (hc : IR c) : IR (midW a b c) := by
 unfold midW
 split
 · rename_i h; exact ir_num_some h hb
 split
 · rename_i h; exact ir_num_some h hc
 split
 · exact ir_e3
 · exact ir_text _
theorem ir_mL (v : T3) : ∀ (l : List T3) (i : Nat), i + l.length ≤ 1000000 → IR (mL v i l)
 | [], i, _ => ir_e7
 | x :: l, i, h => by
   unfold mL
   rw [List.length_cons] at h
   split
   · exact ir_c (by omega) (by omega)
   · exact ir_mL v l (i + 1) (by omega)
theorem ir_match {l : List RW} (hl : ∀ r ∈ l, (∀ v ∈ r.2.2, IR v) ∧ r.2.2.length ≤ 1000000) : IR (matchW l) := by
 unfold matchW
 split
 · rename_i r0 r1
   split
   · rename_i v0 h0
     split
     · rename_i e h
       exact ir_fault (fun v hv => (hl r0 (by simp)).1 v (by rw [h0]; exact hv)) e h
     · exact ir_mL _ _ _ (by have := (hl r1 (by simp)).2; omega)
   · exact ir_e6
 · exact ir_e6
theorem ir_if {L : List T3} (hl : ∀ v ∈ L, IR v) : IR (ifW L) := by
 unfold ifW
 split
 · rename_i v0 v1 v2
   split
   · rename_i e h
     exact ir_fault (fun v hv => hl v (by rw [List.mem_singleton.1 hv]; simp)) e h
   split
   · split
     · exact ir_plainT (hl _ (by simp))
     · exact ir_plainT (hl _ (by simp))
   · exact ir_e3
 · exact ir_e6
theorem ir_choose {L : List T3} (hl : ∀ v ∈ L, IR v) : IR (chooseW L) := by
 unfold chooseW
 split
 · rename_i v0 v1 rest
   split
   · rename_i e h
     exact ir_fault (fun v hv => hl v (by rw [List.mem_singleton.1 hv]; simp)) e h
   split
   · rename_i h; exact ir_num_some h (hl v0 (by simp))
   split
   · exact ir_e7
   · refine ir_plainT ?_
     rw [List.getD_eq_getElem?_getD]
     cases h : (v0 :: v1 :: rest)[v0.2.1.toNat]? with
     | none => exact ir_c (by decide) (by decide)
     | some v => exact hl v (List.mem_of_getElem? h)
 · exact ir_e6
theorem mem_all {l : List RW} {r : RW} {v : T3} (hr : r ∈ l) (hv : v ∈ r.2.2) : v ∈ allL l := List.mem_flatMap.2 ⟨r, hr, hv⟩
theorem len_row {l : List RW} {r : RW} (h : r ∈ l) : r.2.2.length ≤ (allL l).length := by
 induction l with
 | nil => cases h
 | cons y l ih =>
   have e : allL (y :: l) = y.2.2 ++ allL l := rfl
   rw [e, List.length_append]
   rcases List.mem_cons.1 h with rfl | h
   · omega
   · have := ih h; omega
theorem ir_withL {L : List T3} {f : List T3 → T3} (hl : ∀ v ∈ L, IR v) (hf : IR (f L)) : IR (withL L f) := by
 unfold withL
 split
 · rename_i e h; exact ir_fault hl e h
 · exact hf
theorem ir_call (name : ByteArray) {l : List RW} (hl : ∀ v ∈ allL l, IR v) (hlen : (allL l).length ≤ 1000000) : IR (callW name l) := by
 unfold callW
 split
 · exact ir_many name hl hlen
 split
 · have : cntA (allL l) ≤ (allL l).length := List.length_filter_le _ _
   exact ir_c (by omega) (by omega)
 split
 · unfold lazyW
   split
   · exact ir_match fun r hr => ⟨fun v hv => hl v (mem_all hr hv), by have := len_row hr; omega⟩
   split
   · split
     · exact ir_if hl
     · exact ir_choose hl
   · exact ir_e6
 split
 · split
   · split
     · exact ir_bool _
     · refine ir_withL hl ?_
       unfold one1
       split
       · rename_i v h; exact ir_one _ _ (hl v (by rw [h]; simp))
       · exact ir_e6
   · exact ir_e6
 split
 · split
   · refine ir_withL hl ?_
     unfold two2
     split
     · rename_i v w h; exact ir_two _ (hl v (by rw [h]; simp)) (hl w (by rw [h]; simp))
     · exact ir_e6
   · exact ir_e6
 split
 · split
   · refine ir_withL hl ?_
     unfold mid3
     split
     · rename_i v w y h; exact ir_mid (hl w (by rw [h]; simp)) (hl y (by rw [h]; simp))
     · exact ir_e6
   · exact ir_e6
 · exact ir_e5
end Go.Proofs.YtfngpfnbhafmlaaGreatDoor
namespace Go.Proofs.YtfngpfnbhafmlaaGreatDoor
open Go Go.RowKit
set_option linter.unusedSimpArgs false
abbrev Sh := C3 × T3
def shV (p : Sh) : V := .agg [.x (.string p.1.1), .x (.int .i64 p.1.2.1), .x (.int .i64 p.1.2.2), .x (.int .i64 p.2.1), .x (.int .i64 p.2.2.1), .x (.string p.2.2.2)]
abbrev SW := Bool × Nat × List Sh
def swV (p : SW) : V := .sl p.1 p.2.1 (p.2.2.map shV) none
theorem shV_inj (a b : Sh) (e : shV a = shV b) : a = b := by
 obtain ⟨⟨a1, a2, a3⟩, a4, a5, a6⟩ := a
 obtain ⟨⟨b1, b2, b3⟩, b4, b5, b6⟩ := b
 simp only [shV, V.agg.injEq, List.cons.injEq, V.x.injEq, Value.int.injEq, Value.string.injEq, true_and, and_true] at e
 obtain ⟨rfl, rfl, rfl, rfl, rfl, rfl⟩ := e
 rfl
theorem swV_inj (p q : SW) (e : swV p = swV q) : p = q := by
 obtain ⟨a, b, c⟩ := p
 obtain ⟨a', b', c'⟩ := q
 simp only [swV, V.sl.injEq, and_true] at e
 obtain ⟨rfl, rfl, h⟩ := e
 rw [map_inj' shV_inj h]
def okSw (p : SW) : Prop := (p.2.2 ≠ [] → p.2.1 = 6) ∧ p.2.2.length ≤ 1000000 ∧ ∀ q ∈ p.2.2, inR q.2.2.1
def atL : List Sh → C3 → T3
 | [], _ => (0, 0, ⟨#[]⟩)
 | p :: l, c => if eqC p.1 c = true then plainT p.2 else atL l c
theorem atL_cons (p : Sh) (l : List Sh) (c : C3) : atL (p :: l) c = if eqC p.1 c = true then plainT p.2 else atL l c := rfl
theorem atL_nil (c : C3) : atL [] c = (0, 0, ⟨#[]⟩) := rfl
theorem cellV_inj (a b : C3) (e : cellV a = cellV b) : a = b := by
 obtain ⟨a1, a2, a3⟩ := a
 obtain ⟨b1, b2, b3⟩ := b
 simp only [cellV, V.agg.injEq, List.cons.injEq, V.x.injEq, Value.int.injEq, Value.string.injEq, true_and, and_true] at e
 obtain ⟨rfl, rfl, rfl⟩ := e
 rfl
theorem sh_at {l : List Sh} {i : Nat} (h : i < l.length) : ∃ s c r k n t, l[i]? = some ((s, c, r), (k, n, t)) ∧ (l.map shV)[((i : Nat) : Int).toNat]? = some (shV ((s, c, r), (k, n, t))) ∧ ((s, c, r), (k, n, t)) ∈ l ∧ l.drop i = ((s, c, r), (k, n, t)) :: l.drop (i + 1) := by
 refine ⟨l[i].1.1, l[i].1.2.1, l[i].1.2.2, l[i].2.1, l[i].2.2.1, l[i].2.2.2, List.getElem?_eq_getElem h, ?_, List.getElem_mem h, List.drop_eq_getElem_cons h⟩
 rw [Int.toNat_natCast, List.getElem?_map, List.getElem?_eq_getElem h]
 rfl
end Go.Proofs.YtfngpfnbhafmlaaGreatDoor
namespace Go.Proofs.YtfngpfnbhafmlaaGreatDoor
open Go Go.RowKit
set_option linter.unusedSimpArgs false
def rngC (h : Hd) : List C3 := (cellsA h.cs h.cc h.cr h.ts h.tc h.tr).getD []
def mkR (c : List T3) : RW := (c.isEmpty, 3, c)
def kidR (f : C3 → T3) (h : Hd) (v : T3) : RW := if h.k = 3 then mkR ((rngC h).map f) else (false, 3, [v])
def evalH (f : C3 → T3) (h : Hd) (vs : List T3) (rs : List RW) : T3 :=
 if h.k = 1 then (h.vk, h.vn, h.vs) else if h.k = 2 then f (h.cs, h.cc, h.cr) else if h.k = 7 then (4, 4, ⟨#[]⟩)
 else if h.k = 4 then pairW ⟨#[45]⟩ 1 0 ⟨#[]⟩ (vs.getD 0 (0, 0, ⟨#[]⟩)).1 (vs.getD 0 (0, 0, ⟨#[]⟩)).2.1 (vs.getD 0 (0, 0, ⟨#[]⟩)).2.2
 else if h.k = 5 then pairW h.op (vs.getD 0 (0, 0, ⟨#[]⟩)).1 (vs.getD 0 (0, 0, ⟨#[]⟩)).2.1 (vs.getD 0 (0, 0, ⟨#[]⟩)).2.2 (vs.getD 1 (0, 0, ⟨#[]⟩)).1 (vs.getD 1 (0, 0, ⟨#[]⟩)).2.1 (vs.getD 1 (0, 0, ⟨#[]⟩)).2.2
 else if h.k = 6 then callW h.nm rs else (4, 3, ⟨#[]⟩)
mutual
def evalN (f : C3 → T3) : Nd → T3
 | .leaf h => evalH f h [] []
 | .mk h l => evalH f h (evalVs f l) (evalRs f l)
def evalVs (f : C3 → T3) : List Nd → List T3
 | [] => []
 | n :: l => evalN f n :: evalVs f l
def evalRs (f : C3 → T3) : List Nd → List RW
 | [] => []
 | n :: l => kidR f n.hd (evalN f n) :: evalRs f l
end
theorem evalVs_map (f : C3 → T3) : ∀ l, evalVs f l = l.map (evalN f)
 | [] => rfl
 | n :: l => by rw [evalVs, evalVs_map f l]; rfl
theorem evalRs_map (f : C3 → T3) : ∀ l, evalRs f l = l.map fun n => kidR f n.hd (evalN f n)
 | [] => rfl
 | n :: l => by rw [evalRs, evalRs_map f l]; rfl
theorem evalN_eq (f : C3 → T3) (a : Nd) : evalN f a = evalH f a.hd (a.ks.map (evalN f)) (a.ks.map fun n => kidR f n.hd (evalN f n)) := by
 cases a with
 | leaf h => rfl
 | mk h l => rw [evalN, evalVs_map, evalRs_map]; rfl
theorem rng_len (h : Hd) : (rngC h).length ≤ 400 := by
 unfold rngC cellsA
 split
 · rename_i hh
   obtain ⟨hok, h4⟩ := hh
   obtain ⟨_, _, _, hc, hr⟩ := okA_iff.1 hok
   rw [Option.getD_some, cellsL_len]
   have e1 : h.tc - h.cc + 1 = (((h.tc - h.cc + 1).toNat : Nat) : Int) := by omega
   have e2 : h.tr - h.cr + 1 = (((h.tr - h.cr + 1).toNat : Nat) : Int) := by omega
   unfold areaN at h4
   rw [e1, e2] at h4
   have : (((h.tr - h.cr + 1).toNat * (h.tc - h.cc + 1).toNat : Nat) : Int) ≤ 400 := by push_cast; rw [Int.mul_comm]; exact h4
   omega
 · simp
theorem rL_all {l : List Nd} : rL l = true → ∀ n ∈ l, rN n = true := by
 induction l with
 | nil => exact fun _ n hn => by cases hn
 | cons x l ih =>
   intro h n hn
   simp only [rL, Bool.and_eq_true] at h
   rcases List.mem_cons.1 hn with rfl | hn
   · exact h.1
   · exact ih h.2 n hn
theorem rN_kids {a : Nd} (h : rN a = true) : ∀ n ∈ a.ks, rN n = true := by
 rw [rN_eq, Bool.and_eq_true, Bool.and_eq_true] at h
 exact rL_all h.2.1
theorem rN_count {a : Nd} (h : rN a = true) : a.ks.length ≤ 20 ∧ (a.hd.k = 4 → a.ks.length = 1) ∧ (a.hd.k = 5 → a.ks.length = 2) ∧ (a.hd.k = 1 ∨ a.hd.k = 2 ∨ a.hd.k = 3 ∨ a.hd.k = 4 ∨ a.hd.k = 5 ∨ a.hd.k = 6 ∨ a.hd.k = 7) := by
 rw [rN_eq, Bool.and_eq_true, Bool.and_eq_true] at h
 obtain ⟨hb, _, ho⟩ := h
 unfold bareB at hb
 unfold okR at ho
 by_cases h1 : a.hd.k = 1
 · simp [h1] at hb ⊢; simp [hb]
 by_cases h2 : a.hd.k = 2
 · simp [h2] at hb ⊢; simp [hb]
 by_cases h3 : a.hd.k = 3
 · simp [h3] at hb ⊢; simp [hb]
 by_cases h4 : a.hd.k = 4
 · simp [h4] at ho ⊢; omega
 by_cases h5 : a.hd.k = 5
 · simp [h5] at ho ⊢; omega
 by_cases h6 : a.hd.k = 6
 · simp [h6] at ho ⊢; omega
 by_cases h7 : a.hd.k = 7
 · simp [h7] at hb ⊢; simp [hb]
 simp [h1, h2, h3, h4, h5, h6, h7] at hb
theorem rN_num {a : Nd} (h : rN a = true) (hs : smN a) (h1 : a.hd.k = 1) : inR a.hd.vn := by
 rw [rN_eq, Bool.and_eq_true, Bool.and_eq_true] at h
 obtain ⟨_, _, ho⟩ := h
 have hv := ((smN_eq a).1 hs).1
 unfold okR at ho
 simp only [h1, decide_true, cond_true, Bool.and_eq_true, Bool.or_eq_true, decide_eq_true_eq] at ho
 obtain ⟨hr, (⟨_, h0⟩ | h2) | h3⟩ := ho
 · unfold inR; omega
 · rw [h2] at hr
   simp [rightV] at hr
   unfold inR; omega
 · rw [h3] at hr
   simp [rightV] at hr
   unfold inR; omega
theorem kid_IR {f : C3 → T3} (hf : ∀ c, IR (f c)) {h : Hd} {v : T3} (hv : IR v) : (∀ x ∈ (kidR f h v).2.2, IR x) ∧ (kidR f h v).2.2.length ≤ 400 ∧ ((kidR f h v).2.2 ≠ [] → (kidR f h v).2.1 = 3) := by
 unfold kidR
 split
 · unfold mkR
   refine ⟨fun x hx => ?_, by simp only [List.length_map]; exact rng_len h, fun _ => rfl⟩
   obtain ⟨c, _, rfl⟩ := List.mem_map.1 hx
   exact hf c
 · exact ⟨fun x hx => by rw [List.mem_singleton.1 hx]; exact hv, by simp, fun _ => rfl⟩
theorem kids_all {f : C3 → T3} (hf : ∀ c, IR (f c)) {l : List Nd} (hl : ∀ n ∈ l, IR (evalN f n)) : (∀ v ∈ allL (l.map fun n => kidR f n.hd (evalN f n)), IR v) ∧ (allL (l.map fun n => kidR f n.hd (evalN f n))).length ≤ 400 * l.length := by
 induction l with
 | nil => exact ⟨fun v hv => (by cases hv), Nat.le_refl _⟩
 | cons n l ih =>
   obtain ⟨h1, h2⟩ := ih (fun x hx => hl x (List.mem_cons_of_mem _ hx))
   obtain ⟨k1, k2, _⟩ := kid_IR hf (h := n.hd) (hl n (List.mem_cons_self ..))
   have e : allL ((n :: l).map fun n => kidR f n.hd (evalN f n)) = (kidR f n.hd (evalN f n)).2.2 ++ allL (l.map fun n => kidR f n.hd (evalN f n)) := rfl
   rw [e]
   refine ⟨fun v hv => ?_, by rw [List.length_append, List.length_cons]; omega⟩
   rcases List.mem_append.1 hv with hv | hv
   · exact k1 v hv
   · exact h1 v hv
theorem ev_in {f : C3 → T3} (hf : ∀ c, IR (f c)) : ∀ (m : Nat) (a : Nd), cnt a ≤ m → rN a = true → smN a → IR (evalN f a)
 | 0, a, hm, _, _ => by have := cnt_pos a; omega
 | m + 1, a, hm, hr, hs => by
   have hk : ∀ n ∈ a.ks, IR (evalN f n) := fun n hn => by
    have h1 := cntL_mem hn
    have h2 := cnt_eq a
    exact ev_in hf m n (by omega) (rN_kids hr n hn) (smL_mem ((smN_eq a).1 hs).2 hn)
   obtain ⟨c20, _⟩ := rN_count hr
   have hg : ∀ i, IR ((a.ks.map (evalN f)).getD i (0, 0, ⟨#[]⟩)) := fun i => by
    rw [List.getD_eq_getElem?_getD, List.getElem?_map]
    cases h : a.ks[i]? with
    | none => exact ir_c (by decide) (by decide)
    | some n => exact hk n (List.mem_of_getElem? h)
   obtain ⟨q1, q2⟩ := kids_all hf hk
   rw [evalN_eq]
   unfold evalH
   split
   · exact rN_num hr hs ‹_›
   split
   · exact hf _
   split
   · exact ir_c (by decide) (by decide)
   split
   · exact ir_pair inR_0 (hg 0)
   split
   · exact ir_pair (hg 0) (hg 1)
   split
   · exact ir_call _ q1 (by omega)
   · exact ir_e3
theorem at_RB (l : List Sh) (c : C3) : RB (atL l c) := by
 induction l with
 | nil =>
   show rightB 0 0 ⟨#[]⟩ = true
   simp [rightB]
 | cons p l ih =>
   unfold atL
   split
   · exact rb_plainT _
   · exact ih
end Go.Proofs.YtfngpfnbhafmlaaGreatDoor
namespace Go.Proofs.YtfngpfnbhafmlaaGreatDoor
open Go Go.RowKit
set_option linter.unusedSimpArgs false
def encEv (p : Nd × SW) : List V := [nodeV p.1, swV p.2]
theorem encEv_inj (p q : Nd × SW) (e : encEv p = encEv q) : p = q := by
 obtain ⟨a, b⟩ := p
 obtain ⟨a', b'⟩ := q
 simp only [encEv, List.cons.injEq, and_true] at e
 rw [nodeV_inj _ _ e.1, swV_inj _ _ e.2]
theorem FCellsE_none {cs ts : ByteArray} {cc cr tc tr : Int} (h : cellsA cs cc cr ts tc tr = none) : FCells [.agg [.x (.string cs), .x (.int .i64 cc), .x (.int .i64 cr), .x (.string ts), .x (.int .i64 tc), .x (.int .i64 tr)]] = some (.sl true 0 (([] : List C3).map cellV) none) := by
 unfold FCells
 simp only
 rw [h]
 rfl
theorem FCellsE_some {cs ts : ByteArray} {cc cr tc tr : Int} {L : List C3} (h : cellsA cs cc cr ts tc tr = some L) : FCells [.agg [.x (.string cs), .x (.int .i64 cc), .x (.int .i64 cr), .x (.string ts), .x (.int .i64 tc), .x (.int .i64 tr)]] = some (.sl false 3 (L.map cellV) none) := by
 unfold FCells
 simp only
 rw [h]
end Go.Proofs.YtfngpfnbhafmlaaGreatDoor
namespace Go.Proofs.YtfngpfnbhafmlaaGreatDoor
open Go Go.RowKit
set_option maxRecDepth 100000
def inC (c : C3) (L : List C3) : Bool := L.any fun p => eqC c p
set_option maxRecDepth 100000 in
theorem eqB_cell (a b : C3) : eqB Tryz.prog 20 25 (cellV a) (cellV b) = some (eqC a b) := by
 obtain ⟨s, c, r⟩ := a
 obtain ⟨s', c', r'⟩ := b
 rw [← eq3]
 simp +decide only [go_sem, cellV_mk]
set_option maxRecDepth 100000 in
theorem keyOK_cell (a : C3) : keyOK Tryz.prog 25 (cellV a) = true := by
 obtain ⟨s, c, r⟩ := a
 unfold keyOK
 simp +decide [go_sem, cellV_mk, plainK, keyB, partV]
theorem getI_no {c : C3} : ∀ (L : List C3) (i : Nat), inC c L = false → getI Tryz.prog 25 (cellV c) (L.map cellV) i = some none
 | [], _, _ => rfl
 | p :: L, i, h => by
   have h1 : (eqC c p || inC c L) = false := h
   rw [Bool.or_eq_false_iff] at h1
   show (match eqB Tryz.prog 20 25 (cellV c) (cellV p) with
    | some true => some (some i)
    | some false => getI Tryz.prog 25 (cellV c) (L.map cellV) (i + 1)
    | none => none) = _
   rw [eqB_cell, h1.1]
   exact getI_no L (i + 1) h1.2
theorem getI_in {c : C3} : ∀ (L : List C3) (i : Nat), inC c L = true → ∃ j, getI Tryz.prog 25 (cellV c) (L.map cellV) i = some (some (i + j)) ∧ L[j]? = some c
 | [], _, h => by cases h
 | p :: L, i, h => by
   have h1 : (eqC c p || inC c L) = true := h
   have e : getI Tryz.prog 25 (cellV c) ((p :: L).map cellV) i = (match eqB Tryz.prog 20 25 (cellV c) (cellV p) with
    | some true => some (some i)
    | some false => getI Tryz.prog 25 (cellV c) (L.map cellV) (i + 1)
    | none => none) := rfl
   rw [e, eqB_cell]
   cases hq : eqC c p with
   | true => exact ⟨0, rfl, by rw [of_decide_eq_true hq]; rfl⟩
   | false =>
     rw [hq] at h1
     obtain ⟨j, h2, h3⟩ := getI_in L (i + 1) h1
     exact ⟨j + 1, by show getI _ _ _ _ _ = _; rw [h2]; congr 2; omega, h3⟩
end Go.Proofs.YtfngpfnbhafmlaaGreatDoor
namespace Go.Proofs.YtfngpfnbhafmlaaGreatDoor
open Go Go.RowKit
set_option linter.unusedSimpArgs false
set_option maxRecDepth 100000
def ksM (L : List Sh) : List V := (L.map fun p => p.1).map cellV
def vsM (L : List Sh) : List V := L.map fun p => tv p.2
def hasM (L : List Sh) (c : C3) : Bool := inC c (L.map fun p => p.1)
def getM : List Sh → C3 → T3
 | [], _ => (0, 0, ⟨#[]⟩)
 | p :: L, c => if eqC c p.1 = true then p.2 else getM L c
def putS (L : List Sh) (p : Sh) : List Sh := if hasM L p.1 = true then L else L ++ [(p.1, plainT p.2)]
def byL (l : List Sh) : List Sh := l.foldl putS []
theorem ksM_nil : ksM (byL []) = [] := rfl
theorem hasM_snoc (L : List Sh) (p : Sh) (c : C3) : hasM (L ++ [p]) c = (hasM L c || eqC c p.1) := by
 unfold hasM inC
 rw [List.map_append, List.any_append]
 simp
theorem getM_no {L : List Sh} {c : C3} (h : hasM L c = false) : getM L c = (0, 0, ⟨#[]⟩) := by
 induction L with
 | nil => rfl
 | cons p L ih =>
   have h1 : (eqC c p.1 || hasM L c) = false := h
   rw [Bool.or_eq_false_iff] at h1
   unfold getM
   rw [h1.1, if_neg (by decide)]
   exact ih h1.2
theorem getM_snoc (L : List Sh) (p : Sh) (c : C3) : getM (L ++ [p]) c = if hasM L c = true then getM L c else if eqC c p.1 = true then p.2 else (0, 0, ⟨#[]⟩) := by
 induction L with
 | nil => rfl
 | cons q L ih =>
   have e : hasM (q :: L) c = (eqC c q.1 || hasM L c) := rfl
   rw [List.cons_append, e]
   unfold getM
   rw [ih]
   cases eqC c q.1 <;> simp
theorem getM_fold (c : C3) : ∀ (l L : List Sh), getM (l.foldl putS L) c = if hasM L c = true then getM L c else atL l c
 | [], L => by
   rw [List.foldl_nil, atL_nil]
   by_cases h : hasM L c = true
   · rw [if_pos h]
   · rw [if_neg h, getM_no (by simpa using h)]
 | p :: l, L => by
   rw [List.foldl_cons, getM_fold c l, atL_cons]
   unfold putS
   by_cases hp : hasM L p.1 = true
   · rw [if_pos hp]
     by_cases h : hasM L c = true
     · rw [if_pos h, if_pos h]
     · rw [if_neg h, if_neg h, if_neg]
       intro e
       rw [of_decide_eq_true e] at hp
       exact h hp
   · rw [if_neg hp, hasM_snoc, getM_snoc]
     by_cases h : hasM L c = true
     · simp [h]
     · simp only [h, Bool.false_or, Bool.false_eq_true, if_false]
       by_cases e : p.1 = c
       · have e1 : eqC c p.1 = true := decide_eq_true e.symm
         have e2 : eqC p.1 c = true := decide_eq_true e
         rw [if_pos e1, if_pos e1, if_pos e2]
       · have e1 : ¬ eqC c p.1 = true := fun h => e (of_decide_eq_true h).symm
         have e2 : ¬ eqC p.1 c = true := fun h => e (of_decide_eq_true h)
         rw [if_neg e1, if_neg e2]
theorem getM_byL (l : List Sh) : getM (byL l) = atL l := by
 funext c
 unfold byL
 rw [getM_fold]
 rfl
theorem getM_at {L : List Sh} {c : C3} {j : Nat} (h : (L.map fun p => p.1)[j]? = some c) (hn : (L.map fun p => p.1).Nodup) : (vsM L)[j]? = some (tv (getM L c)) := by
 induction L generalizing j with
 | nil => simp at h
 | cons p L ih =>
   rw [List.map_cons, List.nodup_cons] at hn
   cases j with
   | zero =>
     simp only [List.map_cons, List.getElem?_cons_zero, Option.some.injEq] at h
     unfold getM
     rw [if_pos (show eqC c p.1 = true from decide_eq_true h.symm)]
     rfl
   | succ j =>
     simp only [List.map_cons, List.getElem?_cons_succ] at h
     have hne : ¬ eqC c p.1 = true := fun e => hn.1 (by rw [← of_decide_eq_true e]; exact List.mem_of_getElem? h)
     unfold getM
     rw [if_neg hne]
     exact ih h hn.2
theorem hasM_mem {L : List Sh} {c : C3} : hasM L c = true ↔ c ∈ L.map fun p => p.1 := by
 unfold hasM inC
 rw [List.any_eq_true]
 constructor
 · rintro ⟨x, hx, e⟩
   rw [of_decide_eq_true e]
   exact hx
 · exact fun h => ⟨c, h, decide_eq_true rfl⟩
def okM (L : List Sh) : Prop := (L.map fun p => p.1).Nodup
theorem okM_put {L : List Sh} (h : okM L) (p : Sh) : okM (putS L p) := by
 unfold putS
 by_cases hp : hasM L p.1 = true
 · rw [if_pos hp]; exact h
 · rw [if_neg hp]
   unfold okM at h ⊢
   rw [List.map_append, List.nodup_append]
   refine ⟨h, by simp, fun a ha b hb e => ?_⟩
   have hb : b = p.1 := by simpa using hb
   subst hb
   exact hp (hasM_mem.2 (e ▸ ha))
theorem okM_fold : ∀ (l L : List Sh), okM L → okM (l.foldl putS L)
 | [], _, h => h
 | p :: l, _, h => okM_fold l _ (okM_put h p)
theorem okM_byL (l : List Sh) : okM (byL l) := okM_fold l [] List.nodup_nil
theorem lookM {c : C3} {L : List Sh} (s : Nat) (hL : okM L) : lookV Tryz.prog 44 (.mp s (ksM L) (vsM L)) (cellV c) false = some (tv (getM L c)) := by
 unfold lookV
 rw [Tryz.underlying44]
 cases h : hasM L c with
 | true =>
   obtain ⟨j, h1, h2⟩ := getI_in (c := c) (L.map fun p => p.1) 0 (show inC c (L.map fun p => p.1) = true from h)
   have h3 := getM_at h2 hL
   rw [Nat.zero_add] at h1
   simp only [keyOK_cell, if_true, ksM, h1, h3]
   rfl
 | false =>
   simp only [keyOK_cell, if_true, ksM, getI_no (c := c) (L.map fun p => p.1) 0 (show inC c (L.map fun p => p.1) = false from h), zm23, getM_no h]
   rfl
theorem lookM2 {c : C3} {L : List Sh} (s : Nat) (hL : okM L) : lookV Tryz.prog 44 (.mp s (ksM L) (vsM L)) (cellV c) true = some (.tup [tv (getM L c), .x (.bool (hasM L c))]) := by
 unfold lookV
 rw [Tryz.underlying44]
 cases h : hasM L c with
 | true =>
   obtain ⟨j, h1, h2⟩ := getI_in (c := c) (L.map fun p => p.1) 0 (show inC c (L.map fun p => p.1) = true from h)
   have h3 := getM_at h2 hL
   rw [Nat.zero_add] at h1
   simp only [keyOK_cell, if_true, ksM, h1, h3]
   rfl
 | false =>
   simp only [keyOK_cell, if_true, ksM, getI_no (c := c) (L.map fun p => p.1) 0 (show inC c (L.map fun p => p.1) = false from h), zm23, getM_no h]
   rfl
theorem putM_new {c : C3} {v : T3} {L : List Sh} (h : hasM L c = false) : putM Tryz.prog 44 (ksM L) (vsM L) (cellV c) (tv v) = some (ksM (L ++ [(c, v)]), vsM (L ++ [(c, v)])) := by
 unfold putM
 rw [Tryz.underlying44]
 simp only [ksM, keyOK_cell, getI_no (c := c) (L.map fun p => p.1) 0 (show inC c (L.map fun p => p.1) = false from h)]
 rw [if_pos ⟨trivial, rfl⟩]
 simp [vsM]
set_option maxRecDepth 100000 in
theorem efault_fun : FunV 15 FFault := by
 refine fun_of_run (E := envOf []) (k := 1) (envOK_of _ trivial) (by kernel_rfl) Tryz.func15 rfl (fun a w => Tryz.call15 a w) Tryz.ntmps15 (by kernel_rfl) (by decide) (by decide) ?_
 intro us r hF hdat
 unfold FFault at hF
 split at hF
 case h_2 => cases hF
 rename_i n
 cases hF
 refine ⟨rfl, ?_⟩
 simp +decide (maxDischargeDepth := 200) only [go_sem, Tryz.results15]
set_option maxRecDepth 100000 in
theorem eusable_fun : FunV 30 FPlain := by
 refine fun_of_run (E := envOf [(43, FRight), (15, FFault)]) (k := 1) (envOK_of _ ⟨valr_fun, efault_fun, trivial⟩) (by kernel_rfl) Tryz.func30 rfl (fun a w => Tryz.call30 a w) Tryz.ntmps30 (by kernel_rfl) (by decide) (by decide) ?_
 intro us r hF hdat
 unfold FPlain at hF
 split at hF
 case h_2 => cases hF
 rename_i k n s
 cases hF
 refine ⟨rfl, ?_⟩
 unfold plainW
 cases hr : rightB k n s
 · simp +decide (maxDischargeDepth := 200) only [go_sem, FRight, FFault, hr, Tryz.results30]
 · simp +decide (maxDischargeDepth := 200) only [go_sem, FRight, FFault, hr, Tryz.results30]
open Classical in
noncomputable def FBy : List V → Option (List V × List V) := fun us => if h : ∃ p : SW, us = [swV p] ∧ okSw p then some (ksM (byL h.choose.2.2), vsM (byL h.choose.2.2)) else none
open Classical in
theorem FBy_at {p : SW} (h : okSw p) : FBy [swV p] = some (ksM (byL p.2.2), vsM (byL p.2.2)) := by
 have hh : ∃ q : SW, [swV p] = [swV q] ∧ okSw q := ⟨p, rfl, h⟩
 unfold FBy
 rw [dif_pos hh]
 have e := swV_inj _ _ (List.cons.inj hh.choose_spec.1).1
 rw [← e]
open Classical in
theorem FBy_out {us ks vs : List V} (h : FBy us = some (ks, vs)) : ∃ p : SW, us = [swV p] ∧ okSw p ∧ ks = ksM (byL p.2.2) ∧ vs = vsM (byL p.2.2) := by
 unfold FBy at h
 split at h
 case isFalse => cases h
 rename_i hh
 cases h
 exact ⟨hh.choose, hh.choose_spec.1, hh.choose_spec.2, rfl, rfl⟩
theorem any_dagM {E : Env} {ops : List Oper} {st : St} {K : St → Prop} (ents : List (Nat × Nat × Nat × V)) (bs : List (Nat × List V)) (ps : List (Nat × Nat × Nat)) (full : Nat) (hf : 2 ^ ops.length - 1 = full) (h : dagOK ops ps = true) (h0 : leT st (selT ents 0) ∧ leB st bs) (ht : dagT E ops ents bs ps)
 (hk : K (stOf (selT ents full) bs)) : AnyV E ops st K := any_dag ents bs ps h h0 ht (hf ▸ hk)
set_option maxHeartbeats 16000000 in
set_option maxRecDepth 100000 in
theorem bycell_fun : FunMV 17 FBy := by
 refine fun_of_runM (E := envQ [(30, FPlain)] [] [] (fun _ => false) (fun i => i == 7)) (k := 1) (envOK_Q _ _ _ _ _ ⟨eusable_fun, trivial⟩ trivial trivial) (by kernel_rfl) Tryz.func17 rfl (fun a w => Tryz.call17 a w) Tryz.ntmps17 Tryz.results17 (by kernel_rfl) (by decide) (by decide) ?_
 intro us ks rs hF hdat
 obtain ⟨⟨nl, sz, l⟩, hus, hok, hks, hrs⟩ := FBy_out hF
 clear hF
 subst hus hks hrs
 obtain ⟨hsz, hlen, hin⟩ := hok
 simp only at hsz hlen hin
 clear hdat
 refine ⟨rfl, ?_⟩
 simp only [swV]
 simp +decide (maxDischargeDepth := 200) only [go_sem, List.length_map, ksM_nil]
 refine loop_of (X := {i : Nat // i ≤ l.length}) (fun i => [(11, .sl nl sz (l.map shV) none), (12, .x (.int .i64 (l.length : Int))), (13, .x (.int .i64 ((i.1 : Nat) : Int))), (3, .mp 10 (ksM (byL (l.take i.1))) (vsM (byL (l.take i.1))))]) (fun _ => []) (fun i => l.length - i.1) ⟨0, Nat.zero_le _⟩ (by simp +decide only [go_sem, Int.natCast_zero, List.take_zero] <;> (repeat' first | rfl | constructor)) (by simp +decide only [go_sem] <;> (repeat' first | rfl | constructor)) (fun ⟨i, hi0⟩ => ?_)
 simp only at hi0 ⊢
 by_cases hi : i < l.length
 · have c1 : decide ((i : Int) < (l.length : Int)) = true := decide_eq_true (by omega)
   have c2 : (0 : Int) ≤ (i : Int) := by omega
   have c4 := count_up (i := i) (by omega)
   obtain ⟨ps, pc, pr, vk, vn, vs, q1, q2, q3, q4⟩ := sh_at hi
   obtain rfl := hsz (List.ne_nil_of_mem q3)
   simp only [shV] at q2
   have hL := okM_byL (l.take i)
   have e : byL (l.take (i + 1)) = putS (byL (l.take i)) ((ps, pc, pr), (vk, vn, vs)) := by
    unfold byL
    rw [take_snoc' q1, List.foldl_append]
    rfl
   have k1 := lookM2 (c := (ps, pc, pr)) 10 hL
   generalize byL (l.take i) = L at hL e k1 ⊢
   rcases hg : getM L (ps, pc, pr) with ⟨g1, g2, g3⟩
   rw [hg] at k1
   have hcs : cellV (ps, pc, pr) = .agg [.x (.string ps), .x (.int .i64 pc), .x (.int .i64 pr)] := rfl
   rw [hcs] at k1
   simp only [tv, vl] at k1
   cases hh : hasM L (ps, pc, pr) with
   | true =>
     rw [hh] at k1
     have e2 : byL (l.take (i + 1)) = L := by rw [e]; exact if_pos hh
     simp +decide (maxDischargeDepth := 200) only [go_sem, List.length_map, c1, c2, c4, q2, k1]
     refine ⟨⟨i + 1, hi⟩, ?_, ?_, ?_⟩
     · simp +decide (maxDischargeDepth := 200) only [go_sem, List.length_map, e2]
     · simp +decide (maxDischargeDepth := 200) only [go_sem, List.length_map]
     · simp only; omega
   | false =>
     rw [hh] at k1
     have e2 : byL (l.take (i + 1)) = L ++ [((ps, pc, pr), plainT (vk, vn, vs))] := by rw [e]; exact if_neg (by simp only; rw [hh]; decide)
     have k2 := putM_new (v := plainT (vk, vn, vs)) hh
     have hp : FPlain [vl vk vn vs] = some (tv (plainT (vk, vn, vs))) := rfl
     rw [hcs] at k2
     rcases hw : plainT (vk, vn, vs) with ⟨w1, w2, w3⟩
     rw [hw] at hp k2 e2
     simp only [tv, vl] at hp k2
     simp +decide (maxDischargeDepth := 200) only [go_sem, List.length_map, c1, c2, c4, q2, k1]
     generalize hk0 : ksM L = ks0 at k2 ⊢
     generalize hv0 : vsM L = vs0 at k2 ⊢
     generalize hk1 : ksM (L ++ [((ps, pc, pr), w1, w2, w3)]) = ks1 at k2 ⊢
     generalize hv1 : vsM (L ++ [((ps, pc, pr), w1, w2, w3)]) = vs1 at k2 ⊢
     refine any_dagM [(0, 0, 11, .sl nl 6 (l.map shV) none), (0, 0, 12, .x (.int .i64 (l.length : Int))), (0, 0, 13, .x (.int .i64 ((i : Nat) : Int))), (0, 64, 3, .mp 10 ks0 vs0), (64, 0, 3, .mp 10 ks1 vs1), (0, 0, 5, .ptr 5 0), (1, 64, 26, .mp 10 ks0 vs0), (2, 0, 27, .ptr 5 0), (4, 0, 28, .agg [.x (.string ps), .x (.int .i64 pc), .x (.int .i64 pr)]), (8, 0, 29, .ptr 5 3), (16, 0, 30, vl vk vn vs), (32, 0, 31, vl w1 w2 w3)] [(5, [.x (.string ps), .x (.int .i64 pc), .x (.int .i64 pr), .x (.int .i64 vk), .x (.int .i64 vn), .x (.string vs)])] [(0, 0, 1), (0, 1, 2), (0, 3, 8), (1, 1, 3), (1, 3, 9), (2, 0, 3), (2, 2, 6), (2, 3, 10), (8, 0, 9), (8, 1, 10), (8, 4, 24), (3, 2, 7), (3, 3, 11), (9, 1, 11), (9, 4, 25), (6, 0, 7), (6, 3, 14), (10, 0, 11), (10, 2, 14), (10, 4, 26), (24, 0, 25), (24, 1, 26), (24, 5, 56), (7, 3, 15), (11, 2, 15), (11, 4, 27), (25, 1, 27), (25, 5, 57), (14, 0, 15), (14, 4, 30), (26, 0, 27), (26, 2, 30), (26, 5, 58), (56, 0, 57), (56, 1, 58), (15, 4, 31), (27, 2, 31), (27, 5, 59), (57, 1, 59), (30, 0, 31), (30, 5, 62), (58, 0, 59), (58, 2, 62), (31, 5, 63), (59, 2, 63), (62, 0, 63), (63, 6, 127)] 127 (by kernel_rfl) (by kernel_rfl) ?_ ?_ ?_
     · simp +decide (maxDischargeDepth := 200) only [go_sem, List.length_map]
     · simp +decide (maxDischargeDepth := 200) only [go_sem, List.length_map, hp, k2]
     · simp +decide (maxDischargeDepth := 200) only [go_sem, List.length_map, c4]
       refine ⟨⟨i + 1, hi⟩, ?_, ?_, ?_⟩
       · simp +decide (maxDischargeDepth := 200) only [go_sem, List.length_map, e2, hk1, hv1]
       · simp +decide (maxDischargeDepth := 200) only [go_sem, List.length_map]
       · simp only; omega
 · have c1 : decide ((i : Int) < (l.length : Int)) = false := decide_eq_false (by omega)
   have e : l.take i = l := List.take_of_length_le (by omega)
   rw [e]
   simp +decide (maxDischargeDepth := 200) only [go_sem, List.length_map, c1]
end Go.Proofs.YtfngpfnbhafmlaaGreatDoor
namespace Go.Proofs.YtfngpfnbhafmlaaGreatDoor
open Go Go.RowKit
set_option linter.unusedSimpArgs false
theorem putS_in {L : List Sh} (h : ∀ q ∈ L, inR q.2.2.1) {p : Sh} (hp : inR p.2.2.1) : ∀ q ∈ putS L p, inR q.2.2.1 := by
 unfold putS
 split
 · exact h
 · intro q hq
   rcases List.mem_append.1 hq with hq | hq
   · exact h q hq
   · rw [List.mem_singleton.1 hq]
     exact ir_plainT hp
theorem fold_in : ∀ (l L : List Sh), (∀ q ∈ L, inR q.2.2.1) → (∀ q ∈ l, inR q.2.2.1) → ∀ q ∈ l.foldl putS L, inR q.2.2.1
 | [], _, h, _ => h
 | p :: l, _, h, hl => fold_in l _ (putS_in h (hl p (List.mem_cons_self ..))) fun q hq => hl q (List.mem_cons_of_mem _ hq)
theorem byL_in {l : List Sh} (h : ∀ q ∈ l, inR q.2.2.1) : ∀ q ∈ byL l, inR q.2.2.1 := fold_in l [] (fun q hq => by cases hq) h
theorem keysM_inj {L L' : List Sh} (h1 : ksM L = ksM L') (h2 : vsM L = vsM L') : L = L' := by
 induction L generalizing L' with
 | nil => cases L' with
   | nil => rfl
   | cons p L' => cases h1
 | cons p L ih => cases L' with
   | nil => cases h1
   | cons q L' =>
     obtain ⟨a1, a2⟩ := List.cons.inj (show cellV p.1 :: ksM L = cellV q.1 :: ksM L' from h1)
     obtain ⟨b1, b2⟩ := List.cons.inj (show tv p.2 :: vsM L = tv q.2 :: vsM L' from h2)
     rw [ih a2 b2]
     have e1 := cellV_inj _ _ a1
     have e2 : p.2 = q.2 := by
      obtain ⟨_, v1, v2, v3⟩ := p
      obtain ⟨_, u1, u2, u3⟩ := q
      simp only [tv, vl, V.agg.injEq, List.cons.injEq, V.x.injEq, Value.int.injEq, Value.string.injEq, true_and, and_true] at b1
      obtain ⟨rfl, rfl, rfl⟩ := b1
      rfl
     rw [show p = q from Prod.ext e1 e2]
abbrev mpM (s : Nat) (L : List Sh) : V := .mp s (ksM L) (vsM L)
def encRk (p : Nd × List Sh) : List V := [nodeV p.1, mpM 0 p.2]
theorem encRk_inj (p q : Nd × List Sh) (e : encRk p = encRk q) : p = q := by
 obtain ⟨a, b⟩ := p
 obtain ⟨a', b'⟩ := q
 simp only [encRk, List.cons.injEq, V.mp.injEq, true_and, and_true] at e
 rw [nodeV_inj _ _ e.1, keysM_inj e.2.1 e.2.2]
def okRk (p : Nd × List Sh) : Prop := cnt p.1 ≤ 400 ∧ rN p.1 = true ∧ smN p.1 ∧ okM p.2 ∧ ∀ q ∈ p.2, inR q.2.2.1
open Classical in
noncomputable def GRk (n : Nat) (p : Nd × List Sh) : Option (V × List (List V)) := if cnt p.1 < n ∧ okRk p then some (tv (evalN (getM p.2) p.1), [[mpM 0 p.2]]) else none
open Classical in
theorem GRk_of {n : Nat} {nd : Nd} {L : List Sh} (hn : cnt nd < n) (h : okRk (nd, L)) : FE encRk (GRk n) [nodeV nd, mpM 0 L] = some (tv (evalN (getM L) nd), [[mpM 0 L]]) := (FE_at encRk_inj _ (nd, L)).trans (if_pos ⟨hn, h⟩)
open Classical in
noncomputable def GRw (n : Nat) (p : Nd × List Sh) : Option (V × List (List V)) := if cnt p.1 < n ∧ okRk p then some (rwV (kidR (getM p.2) p.1.hd (evalN (getM p.2) p.1)), [[mpM 0 p.2]]) else none
open Classical in
theorem GRw_of {n : Nat} {nd : Nd} {L : List Sh} (hn : cnt nd < n) (h : okRk (nd, L)) : FE encRk (GRw n) [nodeV nd, mpM 0 L] = some (rwV (kidR (getM L) nd.hd (evalN (getM L) nd)), [[mpM 0 L]]) := (FE_at encRk_inj _ (nd, L)).trans (if_pos ⟨hn, h⟩)
def kaV : Option (List Nd) → V
 | none => .sl true 0 [] (some 0)
 | some l => .sl false 13 (l.map nodeV) none
def kaL (o : Option (List Nd)) : List Nd := o.getD []
def encAr (p : Option (List Nd) × List Sh) : List V := [kaV p.1, mpM 0 p.2]
theorem encAr_inj (p q : Option (List Nd) × List Sh) (e : encAr p = encAr q) : p = q := by
 obtain ⟨a, d⟩ := p
 obtain ⟨a', d'⟩ := q
 simp only [encAr, List.cons.injEq, V.mp.injEq, true_and, and_true] at e
 obtain ⟨h, h2, h3⟩ := e
 rw [keysM_inj h2 h3]
 cases a with
 | none => cases a' with
   | none => rfl
   | some l' => cases h
 | some l => cases a' with
   | none => cases h
   | some l' => rw [map_inj' (fun a b => nodeV_inj a b) (V.sl.inj h).2.2.1]
def okAr (p : Option (List Nd) × List Sh) : Prop := (kaL p.1).length ≤ 20 ∧ ∀ c ∈ kaL p.1, okRk (c, p.2)
open Classical in
noncomputable def GAr (n : Nat) (p : Option (List Nd) × List Sh) : Option (V × List (List V)) := if cntL (kaL p.1) < n ∧ okAr p then some (.sl false 1 (((kaL p.1).map fun c => kidR (getM p.2) c.hd (evalN (getM p.2) c)).map rwV) none, [[mpM 0 p.2]]) else none
open Classical in
theorem GAr_some {n : Nat} {l : List Nd} {L : List Sh} (hn : cntL l < n) (h : okAr (some l, L)) : FE encAr (GAr n) [.sl false 13 (l.map nodeV) none, mpM 0 L] = some (.sl false 1 ((l.map fun c => kidR (getM L) c.hd (evalN (getM L) c)).map rwV) none, [[mpM 0 L]]) := (FE_at encAr_inj _ (some l, L)).trans (if_pos ⟨hn, h⟩)
open Classical in
theorem GAr_none {n : Nat} {L : List Sh} (hn : 0 < n) (h : okAr (none, L)) : FE encAr (GAr n) [.sl true 0 [] (some 0), mpM 0 L] = some (.sl false 1 [] none, [[mpM 0 L]]) := (FE_at encAr_inj _ (none, L)).trans (if_pos ⟨hn, h⟩)
theorem node_nl {nd : Nd} {a0 a1 a2 a3 a4 a5 a6 a7 a8 a9 a10 a11 : V} {nl : Bool} {sz : Nat} {es : List V} (h : nodeV nd = .agg [a0, a1, a2, a3, a4, a5, a6, a7, a8, a9, a10, a11, .sl nl sz es none]) : (nl = true ∧ sz = 0 ∧ es = []) ∨ (nl = false ∧ sz = 13) := by
 rw [nodeV_eq] at h
 have h2 : [kidsV nd] = [.sl nl sz es none] := congrArg (fun v => match v with | V.agg cs => cs.drop 12 | _ => []) h
 cases nd with
 | leaf h => cases h2; exact .inl ⟨rfl, rfl, rfl⟩
 | mk h l => cases h2; exact .inr ⟨rfl, rfl⟩
theorem growV_f {E : Env} {el n by' : Nat} {z : List V} (h1 : szB E.P el = some n) (hby : byB E.P el = some by') (hz : zeroB E.P el = some z) (h4 : n ≠ 0) (h5 : z.length = n)
 {es : List V} {v : V} (hc : v.cells.all V.cell = true) (hb : (es.length + 1) * by' ≤ 140737488355328) (hl : es.length + 1 ≤ 9223372036854775807) (st : St) (d tok : Nat) (nl : Bool) (t' : Option Nat) :
 growV E st (some d) el (.sl false n es (some tok)) (.sl nl n [v] t') = some ⟨upd (strip tok (strip d st.t)) d (.sl false n (es ++ [v]) (some d)), stripB E tok (stripB E d st.b)⟩ := by
 unfold growV
 simp only [h1, hby, hz]
 rw [if_pos ⟨h4, h5, trivial, .inl trivial, by simp only [List.all_cons, hc, List.all_nil, Bool.and_true], hb, hl⟩]
def selB : List (Nat × Nat × Nat × List V) → Nat → List (Nat × List V)
 | [], _ => []
 | (need, forb, s, v) :: r, L => if L &&& need = need ∧ L &&& forb = 0 then (s, v) :: selB r L else selB r L
theorem selB_nil (L : Nat) : selB [] L = [] := rfl
theorem selB_cons (need forb s L : Nat) (v : List V) (r : List (Nat × Nat × Nat × List V)) : selB ((need, forb, s, v) :: r) L = if L &&& need = need ∧ L &&& forb = 0 then (s, v) :: selB r L else selB r L := rfl
def dagB (E : Env) (ops : List Oper) (ents : List (Nat × Nat × Nat × V)) (bs : List (Nat × Nat × Nat × List V)) : List (Nat × Nat × Nat) → Prop
 | [] => True
 | (L, i, L') :: r => oneT E ops (selT ents L') (selB bs L') (stOf (selT ents L) (selB bs L)) ops[i]? ∧ dagB E ops ents bs r
theorem dagB_nil (E : Env) (ops : List Oper) (ents : List (Nat × Nat × Nat × V)) (bs : List (Nat × Nat × Nat × List V)) : dagB E ops ents bs [] = True := rfl
theorem dagB_cons (E : Env) (ops : List Oper) (ents : List (Nat × Nat × Nat × V)) (bs : List (Nat × Nat × Nat × List V)) (L i L' : Nat) (r : List (Nat × Nat × Nat)) : dagB E ops ents bs ((L, i, L') :: r) = (oneT E ops (selT ents L') (selB bs L') (stOf (selT ents L) (selB bs L)) ops[i]? ∧ dagB E ops ents bs r) := rfl
attribute [go_sem] selB_nil selB_cons dagB_nil dagB_cons
theorem dagB_app {E : Env} {ops : List Oper} {ents : List (Nat × Nat × Nat × V)} {bs : List (Nat × Nat × Nat × List V)} : ∀ {p q : List (Nat × Nat × Nat)}, dagB E ops ents bs p → dagB E ops ents bs q → dagB E ops ents bs (p ++ q)
 | [], _, _, h => h
 | (_, _, _) :: _, _, h, h' => ⟨h.1, dagB_app h.2 h'⟩
theorem any_dagB {E : Env} {ops : List Oper} {st : St} {K : St → Prop} (ents : List (Nat × Nat × Nat × V)) (bs : List (Nat × Nat × Nat × List V)) (ps : List (Nat × Nat × Nat)) (full : Nat) (hf : 2 ^ ops.length - 1 = full) (h : dagOK ops ps = true) (h0 : leT st (selT ents 0) ∧ leB st (selB bs 0)) (ht : dagB E ops ents bs ps)
 (hk : K (stOf (selT ents full) (selB bs full))) : AnyV E ops st K := by
 subst hf
 refine .inr ⟨fun L => stOf (selT ents L) (selB bs L), ps, h, le_stOf h0.1 h0.2, ?_, hk⟩
 clear h
 induction ps with
 | nil => trivial
 | cons p r ih =>
   obtain ⟨L, i, L'⟩ := p
   rw [dagB_cons] at ht
   refine ⟨?_, ih ht.2⟩
   have h1 := ht.1
   cases ho : ops[i]? with
   | none => rw [ho] at h1; exact h1.elim
   | some o =>
     rw [ho, oneT_some] at h1
     obtain ⟨st', hs, hl, hb⟩ := aopsK_out _ _ h1
     exact ⟨st', hs, le_stOf hl hb⟩
def unrow (rows : List (Nat × List Nat)) : List (Nat × Nat × Nat) := rows.flatMap fun r => r.2.map fun i => (r.1, i, r.1 ||| 2 ^ i)
theorem unrow_eq (rows : List (Nat × List Nat)) : unrow rows = rows.flatMap fun r => r.2.map fun i => (r.1, i, r.1 ||| 2 ^ i) := rfl
def dagOKr (ops : List Oper) (rows : List (Nat × List Nat)) : Bool :=
 (rows.any fun r => r.1 == 0) && rows.all fun r => ((r.2.all fun i => rows.any fun r' => r'.1 == (r.1 ||| 2 ^ i)) && (r.1 == 2 ^ ops.length - 1 || (List.range ops.length).any fun i => readyM ops r.1 i)) && (List.range ops.length).all fun i => !readyM ops r.1 i || r.2.any fun q => q == i
theorem dagOK_rows {ops : List Oper} {rows : List (Nat × List Nat)} (h : dagOKr ops rows = true) : dagOK ops (unrow rows) = true := by
 unfold dagOKr at h
 rw [Bool.and_eq_true, List.any_eq_true, List.all_eq_true] at h
 obtain ⟨⟨r0, hr0, h0⟩, hall⟩ := h
 rw [beq_iff_eq] at h0
 have hrow : ∀ L, L ∈ (0 :: (unrow rows).map fun p => p.2.2) → ∃ r ∈ rows, r.1 = L := by
  intro L hL
  rcases List.mem_cons.1 hL with rfl | hL
  · exact ⟨r0, hr0, h0⟩
  · obtain ⟨p, hp, rfl⟩ := List.mem_map.1 hL
    obtain ⟨r, hr, hp⟩ := List.mem_flatMap.1 hp
    obtain ⟨q, hq, rfl⟩ := List.mem_map.1 hp
    have h1 := hall r hr
    rw [Bool.and_eq_true, Bool.and_eq_true] at h1
    obtain ⟨r', hr', e⟩ := List.any_eq_true.1 (List.all_eq_true.1 h1.1.1 q hq)
    exact ⟨r', hr', beq_iff_eq.1 e⟩
 unfold dagOK
 rw [Bool.and_eq_true, List.all_eq_true, List.all_eq_true]
 refine ⟨fun p hp => ?_, fun L hL => ?_⟩
 · obtain ⟨r, hr, hp⟩ := List.mem_flatMap.1 hp
   obtain ⟨q, hq, rfl⟩ := List.mem_map.1 hp
   exact beq_iff_eq.2 rfl
 · obtain ⟨r, hr, rfl⟩ := hrow L hL
   have h1 := hall r hr
   rw [Bool.and_eq_true, Bool.and_eq_true] at h1
   rw [Bool.and_eq_true]
   refine ⟨h1.1.2, List.all_eq_true.2 fun i hi => ?_⟩
   have h2 := List.all_eq_true.1 h1.2 i hi
   rw [Bool.or_eq_true] at h2 ⊢
   rcases h2 with h2 | h2
   · exact .inl h2
   · obtain ⟨q, hq, e⟩ := List.any_eq_true.1 h2
     refine .inr (List.any_eq_true.2 ⟨(r.1, q, r.1 ||| 2 ^ q), List.mem_flatMap.2 ⟨r, hr, List.mem_map.2 ⟨q, hq, rfl⟩⟩, ?_⟩)
     rw [Bool.and_eq_true]
     exact ⟨beq_iff_eq.2 rfl, e⟩
theorem unrow_app (a b : List (Nat × List Nat)) : unrow (a ++ b) = unrow a ++ unrow b := by simp [unrow]
def dagBs (E : Env) (ops : List Oper) (ents : List (Nat × Nat × Nat × V)) (bs : List (Nat × Nat × Nat × List V)) : List (List (Nat × List Nat)) → Prop
 | [] => True
 | p :: r => dagB E ops ents bs (unrow p) ∧ dagBs E ops ents bs r
theorem dagBs_flat {E : Env} {ops : List Oper} {ents : List (Nat × Nat × Nat × V)} {bs : List (Nat × Nat × Nat × List V)} : ∀ {pss : List (List (Nat × List Nat))}, dagBs E ops ents bs pss → dagB E ops ents bs (unrow pss.flatten)
 | [], _ => trivial
 | _ :: _, h => by rw [List.flatten_cons, unrow_app]; exact dagB_app h.1 (dagBs_flat h.2)
theorem any_dagBs {E : Env} {ops : List Oper} {st : St} {K : St → Prop} (ents : List (Nat × Nat × Nat × V)) (bs : List (Nat × Nat × Nat × List V)) (pss : List (List (Nat × List Nat))) (full : Nat) (hf : 2 ^ ops.length - 1 = full) (h : dagOKr ops pss.flatten = true) (h0 : leT st (selT ents 0) ∧ leB st (selB bs 0)) (ht : dagBs E ops ents bs pss)
 (hk : K (stOf (selT ents full) (selB bs full))) : AnyV E ops st K := any_dagB ents bs (unrow pss.flatten) full hf (dagOK_rows h) h0 (dagBs_flat ht) hk
set_option maxHeartbeats 16000000 in
set_option maxRecDepth 100000 in
theorem erow_step (n : Nat) (ih : FunPV 16 (FE encRk (GRk n))) : FunPV 57 (FE encRk (GRw n)) := by
 refine fun_of_runP (E := envP [(113, FCells)] (fun _ => false) [(16, (FE encRk (GRk n)))]) (k := 2) (envOK_P _ _ _ ⟨cells_fun, trivial⟩ ⟨ih, trivial⟩) (fun _ _ => rfl) (by kernel_rfl) Tryz.func57 rfl (fun a w => Tryz.call57 a w) Tryz.ntmps57 (by kernel_rfl) (by decide) (by decide) ?_
 intro us r outs hF
 obtain ⟨⟨nd, L⟩, hus, hG⟩ := FE_out hF
 clear hF
 subst hus
 have hF := hG
 clear hG
 unfold GRw at hF
 split at hF
 case isFalse => cases hF
 rename_i hok
 cases hF
 obtain ⟨hlt, hok⟩ := hok
 have hk := GRk_of hlt hok
 obtain ⟨h400, hr, hs, hM, hin⟩ := hok
 simp only at hlt h400 hr hs hM hin hk
 simp only [encRk]
 obtain ⟨k, op, nm, vk, vn, vs, cs, cc, cr, ts, tc, tr, l, nl, sz, hh, hl, hf, hs13⟩ := node_cases nd
 rw [hh]
 rcases he : evalN (getM L) nd with ⟨a1, a2, a3⟩
 rw [he] at hk
 simp only [tv, vl] at hk
 rw [hf] at hk ⊢
 refine ⟨rfl, ?_⟩
 by_cases h3 : k = 3
 · subst h3
   obtain ⟨R, nf, zf, hF, hL, hz⟩ : ∃ R nf zf, FCells [.agg [.x (.string cs), .x (.int .i64 cc), .x (.int .i64 cr), .x (.string ts), .x (.int .i64 tc), .x (.int .i64 tr)]] = some (.sl nf zf (R.map cellV) none) ∧ rngC ⟨3, op, nm, vk, vn, vs, cs, cc, cr, ts, tc, tr⟩ = R ∧ (R ≠ [] → zf = 3) := by
    cases hca : cellsA cs cc cr ts tc tr with
    | none => exact ⟨[], true, 0, FCellsE_none hca, by unfold rngC; simp only; rw [hca]; rfl, fun h => absurd rfl h⟩
    | some R => exact ⟨R, false, 3, FCellsE_some hca, by unfold rngC; simp only; rw [hca]; rfl, fun _ => rfl⟩
   have hL4 : R.length ≤ 400 := by rw [← hL]; exact rng_len _
   have ek : rwV (kidR (getM L) ⟨3, op, nm, vk, vn, vs, cs, cc, cr, ts, tc, tr⟩ (a1, a2, a3)) = .sl (R.map fun p => tv (getM L p)).isEmpty 3 (R.map fun p => tv (getM L p)) none := by
    unfold kidR
    rw [if_pos rfl, hL]
    simp only [mkR, rwV, List.map_map]
    cases R <;> rfl
   rw [ek]
   simp +decide (maxDischargeDepth := 200) only [go_sem, Tryz.results57, List.length_map, hF]
   refine loop_nil 5 3 99 (by simp only [go_sem]; rfl) ?_
   refine loop_of (X := {p : Nat × Nat // p.1 ≤ R.length}) (fun p => [(1, .mp 1001 (ksM L) (vsM L)), (2, .ptr 2 0), (5, .sl ((R.take p.1.1).map fun p => tv (getM L p)).isEmpty 3 ((R.take p.1.1).map fun p => tv (getM L p)) (some p.1.2)), (20, .sl nf zf (R.map cellV) none), (21, .x (.int .i64 (R.length : Int))), (22, .x (.int .i64 ((p.1.1 : Nat) : Int)))]) (fun _ => [(2, [.x (.int .i64 3), .x (.string op), .x (.string nm), .x (.int .i64 vk), .x (.int .i64 vn), .x (.string vs), .x (.string cs), .x (.int .i64 cc), .x (.int .i64 cr), .x (.string ts), .x (.int .i64 tc), .x (.int .i64 tr), .sl nl sz (l.map nodeV) none])]) (fun p => R.length - p.1.1) ⟨(0, 99), Nat.zero_le _⟩ (by simp +decide only [go_sem, List.take_zero, List.map_nil, List.isEmpty_nil, Int.natCast_zero] <;> (repeat' first | rfl | constructor)) (by simp +decide only [go_sem] <;> (repeat' first | rfl | constructor)) (fun ⟨⟨j, tk⟩, hj0⟩ => ?_)
   simp only at hj0 ⊢
   by_cases hj : j < R.length
   · obtain ⟨p, hp⟩ := getC hj
     obtain rfl := hz (fun e => by rw [e] at hj; simp at hj)
     have f1 : decide ((j : Int) < (R.length : Int)) = true := decide_eq_true (by omega)
     have f2 : (0 : Int) ≤ (j : Int) := by omega
     have f4 := count_up (i := j) (by omega)
     have f5 := cell_at hp
     have ha := lookM (c := p) 1001 hM
     have e3 : (R.take (j + 1)).map (fun p => tv (getM L p)) = (R.take j).map (fun p => tv (getM L p)) ++ [tv (getM L p)] := by rw [take_snoc' hp, List.map_append]; rfl
     have hvl : ((R.take j).map fun p => tv (getM L p)).length ≤ 400 := by rw [List.length_map, List.length_take]; omega
     generalize (R.take j).map (fun p => tv (getM L p)) = bl at e3 hvl ⊢
     rcases hap : getM L p with ⟨b1, b2, b3⟩
     rw [hap] at ha e3
     have g1 := growV_row (E := (envP [(113, FCells)] (fun _ => false) [(16, (FE encRk (GRk n)))])) (el := 23) (n := 3) sz23 by23 ze23 (by decide) rfl (es := bl) (es' := [vl b1 b2 b3]) (m := 3) (fun _ => rfl) rfl (by simp only [List.length_cons, List.length_nil]; omega) (by simp only [List.length_cons, List.length_nil]; omega)
     simp only [tv, vl, cellV_mk] at ha e3 g1 f5
     simp +decide (maxDischargeDepth := 200) only [go_sem, Tryz.results57, List.length_map, f1, f2, f4, f5, ha, g1]
     refine ⟨⟨(j + 1, 31), by simp only; omega⟩, ?_, ?_, ?_⟩
     · simp +decide (maxDischargeDepth := 200) only [go_sem, e3]
     · simp +decide (maxDischargeDepth := 200) only [go_sem]
     · simp only; omega
   · have f1 : decide ((j : Int) < (R.length : Int)) = false := decide_eq_false (by omega)
     have f9 : R.take j = R := List.take_of_length_le (by omega)
     rw [f9]
     generalize R.map (fun p => tv (getM L p)) = bl
     simp +decide (maxDischargeDepth := 200) only [go_sem, Tryz.results57, f1]
 · have d3 := decide_eq_false h3
   have ek : rwV (kidR (getM L) ⟨k, op, nm, vk, vn, vs, cs, cc, cr, ts, tc, tr⟩ (a1, a2, a3)) = .sl false 3 [vl a1 a2 a3] none := by
    unfold kidR
    rw [if_neg h3]
    rfl
   rw [ek]
   simp +decide (maxDischargeDepth := 200) only [go_sem, Tryz.results57, d3, hk]
set_option maxHeartbeats 16000000 in
set_option maxRecDepth 100000 in
theorem eargs_step (n : Nat) (ih : FunPV 57 (FE encRk (GRw n))) : FunPV 29 (FE encAr (GAr n)) := by
 refine fun_of_runP (E := envP [] (fun _ => false) [(57, (FE encRk (GRw n)))]) (k := 2) (envOK_P _ _ _ trivial ⟨ih, trivial⟩) (fun _ _ => rfl) (by kernel_rfl) Tryz.func29 rfl (fun a w => Tryz.call29 a w) Tryz.ntmps29 (by kernel_rfl) (by decide) (by decide) ?_
 intro us r outs hF
 obtain ⟨⟨o, L⟩, hus, hG⟩ := FE_out hF
 clear hF
 subst hus
 have hF := hG
 clear hG
 unfold GAr at hF
 split at hF
 case isFalse => cases hF
 rename_i hok
 cases hF
 obtain ⟨hlt, h20, hok⟩ := hok
 simp only at hlt h20 hok
 simp only [encAr]
 refine ⟨rfl, ?_⟩
 cases o with
 | none =>
   have m3 : (0 : Int) ≤ 9223372036854775807 := by decide
   simp only [kaV, kaL, Option.getD_none, List.map_nil]
   simp +decide (maxDischargeDepth := 200) only [go_sem, Tryz.results29, m3]
   refine loop_of (X := Unit) (fun _ => [(1, .mp 1001 (ksM L) (vsM L)), (5, .sl false 1 [] (some 10)), (12, .x (.int .i64 0)), (13, .x (.int .i64 0))]) (fun _ => []) (fun _ => 0) () (by simp +decide only [go_sem] <;> (repeat' first | rfl | constructor)) (by simp +decide only [go_sem] <;> (repeat' first | rfl | constructor)) (fun _ => ?_)
   simp +decide (maxDischargeDepth := 200) only [go_sem, Tryz.results29, m3]
 | some l =>
 simp only [kaL, Option.getD_some] at hlt h20 hok
 simp only [kaV, kaL, Option.getD_some]
 have m1 : (0 : Int) ≤ (l.length : Int) := by omega
 have m2 : (24 : Int) * (l.length : Int) ≤ 281474976710656 := by omega
 have m2' : ((24 : Nat) : Int) * (l.length : Int) ≤ 281474976710656 := by omega
 have m3 : (l.length : Int) ≤ 9223372036854775807 := by omega
 simp +decide (maxDischargeDepth := 200) only [go_sem, Tryz.results29, List.length_map, m1, m2, m2', m3]
 refine loop_of (X := {p : Nat × Nat // p.1 ≤ l.length}) (fun p => [(1, .mp 1001 (ksM L) (vsM L)), (5, .sl false 1 (((l.take p.1.1).map fun c => kidR (getM L) c.hd (evalN (getM L) c)).map rwV) (some p.1.2)), (11, .sl false 13 (l.map nodeV) none), (12, .x (.int .i64 (l.length : Int))), (13, .x (.int .i64 ((p.1.1 : Nat) : Int)))]) (fun _ => []) (fun p => l.length - p.1.1) ⟨(0, 10), Nat.zero_le _⟩ (by simp +decide only [go_sem, List.take_zero, List.map_nil, Int.natCast_zero] <;> (repeat' first | rfl | constructor)) (by simp +decide only [go_sem] <;> (repeat' first | rfl | constructor)) (fun ⟨⟨i, tk⟩, hi0⟩ => ?_)
 simp only at hi0 ⊢
 by_cases hi : i < l.length
 · obtain ⟨c, hc1, hc2⟩ := kid_at hi
   have c1 : decide ((i : Int) < (l.length : Int)) = true := decide_eq_true (by omega)
   have c2 : (0 : Int) ≤ (i : Int) := by omega
   have c4 := count_up (i := i) (by omega)
   have hm := List.mem_of_getElem? hc1
   have hk := GRw_of (n := n) (by have := cntL_mem hm; omega) (hok c hm)
   have e : ((l.take (i + 1)).map fun c => kidR (getM L) c.hd (evalN (getM L) c)).map rwV = ((l.take i).map fun c => kidR (getM L) c.hd (evalN (getM L) c)).map rwV ++ [rwV (kidR (getM L) c.hd (evalN (getM L) c))] := by rw [take_snoc' hc1, List.map_append, List.map_append]; rfl
   have hal : (((l.take i).map fun c => kidR (getM L) c.hd (evalN (getM L) c)).map rwV).length ≤ 20 := by rw [List.length_map, List.length_map, List.length_take]; omega
   generalize ((l.take i).map fun c => kidR (getM L) c.hd (evalN (getM L) c)).map rwV = al at e hal ⊢
   rcases hr0 : kidR (getM L) c.hd (evalN (getM L) c) with ⟨r1, r2, r3⟩
   rw [hr0] at hk e
   simp only [rwV] at hk e
   generalize r3.map (fun v => tv v) = rl at hk e
   have g2 := growV_f (E := (envP [] (fun _ => false) [(57, (FE encRk (GRw n)))])) (el := 61) (n := 1) sz61 by61 ze61 (by decide) rfl (es := al) (v := .sl r1 r2 rl none) rfl (by omega) (by omega)
   obtain ⟨k', op', nm', vk', vn', vs', cs', cc', cr', ts', tc', tr', l', nl', sz', hh', hl', hf', hs'⟩ := node_cases c
   rw [hf'] at hc2 hk
   simp +decide (maxDischargeDepth := 200) only [go_sem, Tryz.results29, List.length_map, c1, c2, c4, hc2, hk, g2]
   refine ⟨⟨(i + 1, 22), by simp only; omega⟩, ?_, ?_, ?_⟩
   · simp +decide (maxDischargeDepth := 200) only [go_sem, e]
   · simp +decide (maxDischargeDepth := 200) only [go_sem]
   · simp only; omega
 · have c1 : decide ((i : Int) < (l.length : Int)) = false := decide_eq_false (by omega)
   have e : l.take i = l := List.take_of_length_le (by omega)
   rw [e]
   generalize (l.map fun c => kidR (getM L) c.hd (evalN (getM L) c)).map rwV = al
   simp +decide (maxDischargeDepth := 200) only [go_sem, Tryz.results29, c1]
end Go.Proofs.YtfngpfnbhafmlaaGreatDoor
