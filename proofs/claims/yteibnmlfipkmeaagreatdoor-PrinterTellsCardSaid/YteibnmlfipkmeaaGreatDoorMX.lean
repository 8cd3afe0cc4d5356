/- Both readers agree: what one reads the other reads, and where one fails the other fails. Nothing of the program. -/
import Derived.Test.YteibnmlfipkmeaaGreatDoorMA
namespace Go.Proofs.YteibnmlfipkmeaaGreatDoor
open Go Go.RowKit

theorem sg_ne (b : UInt8) (l : List UInt8) : (⟨⟨b :: l⟩⟩ : ByteArray) ≠ ⟨#[]⟩ := by
  intro h
  have := congrArg (fun s : ByteArray => s.data.toList) h
  cases this
theorem isP_sgn {L : List Tk} {s : ByteArray} (hs : s ≠ ⟨#[]⟩) (i : Nat) : isP L i s = decide (sgn (L.drop i) = s) := by
  unfold isP
  cases h : L[i]? with
  | none =>
    have e : L.drop i = [] := List.drop_eq_nil_of_le (List.getElem?_eq_none_iff.1 h)
    rw [e]
    exact (decide_eq_false (fun e => hs e.symm)).symm
  | some t =>
    rw [drop_cons h]
    simp only
    by_cases h5 : t.1 = 5
    · have e : sgn (t :: L.drop (i + 1)) = B t.2.2 := if_pos h5
      rw [decide_eq_true h5, Bool.true_and]
      exact decide_eq_decide.2 (by rw [e])
    · have e : sgn (t :: L.drop (i + 1)) = ⟨#[]⟩ := if_neg h5
      rw [decide_eq_false h5, Bool.false_and]
      exact (decide_eq_false (fun h => hs (e ▸ h).symm)).symm
theorem atR_P (L : List Tk) (en : Int) (i : Nat) : atR L en i = atP en (L.drop i) := by
  unfold atR
  cases h : L[i]? with
  | none => rw [List.drop_eq_nil_of_le (List.getElem?_eq_none_iff.1 h)]; rfl
  | some t => rw [drop_cons h]; rfl
theorem atP_pos (en : Nat) (l : List Tk) : 0 ≤ atP (en : Int) l := by
  cases l with
  | nil => simp only [atP]; omega
  | cons t l => simp only [atP]; omega
theorem lastOp_fold (L : List Tk) (i : Nat) : ∀ (ops : List ByteArray) (s0 : ByteArray), (∀ o ∈ ops, o ≠ ⟨#[]⟩) →
    (sgn (L.drop i) ∈ ops → ops.foldl (fun s o => if isP L i o = true then o else s) s0 = sgn (L.drop i)) ∧ (sgn (L.drop i) ∉ ops → ops.foldl (fun s o => if isP L i o = true then o else s) s0 = s0) := by
  intro ops
  induction ops with
  | nil => intro s0 _; exact ⟨fun h => by simp at h, fun _ => rfl⟩
  | cons o ops ih =>
    intro s0 h
    have hi := isP_sgn (L := L) (h o (by simp)) i
    rw [List.foldl_cons]
    have h' : ∀ o ∈ ops, o ≠ ⟨#[]⟩ := fun o' ho => h o' (by simp [ho])
    by_cases e : sgn (L.drop i) = o
    · rw [decide_eq_true e] at hi
      rw [hi, if_pos rfl]
      refine ⟨fun _ => ?_, fun hn => absurd (by simp [e]) hn⟩
      by_cases hm : sgn (L.drop i) ∈ ops
      · exact (ih o h').1 hm
      · rw [(ih o h').2 hm, e]
    · rw [decide_eq_false e] at hi
      rw [hi, if_neg (by decide)]
      refine ⟨fun hm => ?_, fun hn => ?_⟩
      · rcases List.mem_cons.1 hm with hm | hm
        · exact absurd hm e
        · exact (ih s0 h').1 hm
      · exact (ih s0 h').2 (fun hm => hn (by simp [hm]))
theorem lastOp_yes {L : List Tk} {i : Nat} {ops : List ByteArray} (hne : ∀ o ∈ ops, o ≠ ⟨#[]⟩) (h : sgn (L.drop i) ∈ ops) : lastOp L i ops = sgn (L.drop i) := (lastOp_fold L i ops _ hne).1 h
theorem lastOp_no {L : List Tk} {i : Nat} {ops : List ByteArray} (hne : ∀ o ∈ ops, o ≠ ⟨#[]⟩) (h : sgn (L.drop i) ∉ ops) : lastOp L i ops = ⟨#[]⟩ := (lastOp_fold L i ops _ hne).2 h
theorem ranks_ne (r : Nat) : ∀ o ∈ ranksP r, o ≠ ⟨#[]⟩ := by
  intro o ho
  rcases r with _ | _ | _ | _ | r <;> simp only [ranksP, List.mem_cons, List.not_mem_nil, or_false] at ho <;> rcases ho with rfl | rfl | rfl | rfl | rfl | rfl <;> exact sg_ne _ _
theorem rank_mem {r : Nat} (hr : r < 4) (s : ByteArray) : rankP s = r + 1 ↔ s ∈ ranksP r := by
  constructor
  · intro h
    unfold rankP at h
    split at h
    · obtain rfl : r = 0 := by omega
      rename_i hs
      simpa [ranksP] using hs
    · split at h
      · obtain rfl : r = 1 := by omega
        rename_i hs
        simpa [ranksP] using hs
      · split at h
        · obtain rfl : r = 2 := by omega
          rename_i hs
          simpa [ranksP] using hs
        · split at h
          · obtain rfl : r = 3 := by omega
            rename_i hs
            simpa [ranksP] using hs
          · omega
  · intro h
    rcases (show r = 0 ∨ r = 1 ∨ r = 2 ∨ r = 3 by omega) with rfl | rfl | rfl | rfl <;> simp only [ranksP, List.mem_cons, List.not_mem_nil, or_false] at h
    · rcases h with rfl | rfl | rfl | rfl | rfl | rfl <;> decide
    · subst h; decide
    · rcases h with rfl | rfl <;> decide
    · rcases h with rfl | rfl <;> decide
theorem op_good {r : Nat} {s : ByteArray} (h : s ∈ ranksP r) : opB s = true := by
  rcases r with _ | _ | _ | _ | r <;> simp only [ranksP, List.mem_cons, List.not_mem_nil, or_false] at h
  · rcases h with rfl | rfl | rfl | rfl | rfl | rfl <;> decide
  · subst h; decide
  · rcases h with rfl | rfl <;> decide
  · rcases h with rfl | rfl <;> decide

/- Which nodes may be. -/
theorem rN_int (v : Nat) : rN (valNd 1 (v : Int) ⟨#[]⟩) = true := by simp [rN, bareB, okR, rightV]
theorem rN_text {s : ByteArray} (h : s.size ≤ 200) : rN (valNd 2 0 s) = true := by
  have : decide ((s.size : Int) ≤ 200) = true := decide_eq_true (by omega)
  simp [rN, bareB, okR, rightV, this]
theorem rN_true : rN (valNd 3 1 ⟨#[]⟩) = true := by simp [rN, bareB, okR, rightV]
theorem rN_false : rN (valNd 3 0 ⟨#[]⟩) = true := by simp [rN, bareB, okR, rightV]
theorem rN_cell {s : ByteArray} {c r : Int} (h : rightC s c r = true) : rN (cellNd s c r) = true := by simp [rN, bareB, okR, h]
theorem rN_range {s : ByteArray} {c r : Int} {s' : ByteArray} {c' r' : Int} (h : rangeB s c r s' c' r' = true) : rN (rangeNd s c r s' c' r') = true := by simp [rN, bareB, okR, h]
theorem rN_un {a : Nd} (h : rN a = true) : rN (unNd ⟨#[45]⟩ a) = true := by simp [rN, rL, bareB, okR, h]
theorem rN_pair {s : ByteArray} {a b : Nd} (hs : opB s = true) (ha : rN a = true) (hb : rN b = true) : rN (pairNd s a b) = true := by simp [rN, rL, bareB, okR, ha, hb, hs]
theorem rN_call {nm : ByteArray} {ks : List Nd} (hn : callB nm = true) (hk : ks.length ≤ 20) (h : rL ks = true) : rN (callNd nm ks) = true := by
  cases ks with
  | nil => simp [callNd, rN, bareB, okR, hn]
  | cons a l =>
    have h20 : decide (((l.length + 1 : Nat) : Int) ≤ 20) = true := decide_eq_true (by simp at hk; omega)
    have h := h
    simp only [callNd, rN, h, Bool.true_and]
    simp only [bareB, okR, hn, List.length_cons, h20]
    simp
theorem rN_bad : rN badNd = true := by simp [rN, bareB, okR]
theorem cnt_leaf (h : Hd) : cnt (.leaf h) = 1 := by simp [cnt]
theorem cnt_un (s : ByteArray) (a : Nd) : cnt (unNd s a) = 1 + cnt a := by simp [cnt, cntL]
theorem cnt_pair (s : ByteArray) (a b : Nd) : cnt (pairNd s a b) = 1 + cnt a + cnt b := by simp [cnt, cntL]; omega
theorem cnt_call (nm : ByteArray) (ks : List Nd) : cnt (callNd nm ks) = 1 + cntL ks := by
  cases ks with
  | nil => simp [callNd, cnt, cntL]
  | cons a l => simp [callNd, cnt]
theorem cntL_snoc' (l : List Nd) (a : Nd) : cntL (l ++ [a]) = cntL l + cnt a := by
  induction l with
  | nil => simp [cntL]
  | cons x l ih => simp only [List.cons_append, cntL, ih]; omega

/-- A sheet's name, a mark, a place: the same as the place of that sheet. -/
theorem read_place {s pl : List UInt8} (h : (33 : UInt8) ∉ s) : readA (B s ++ ⟨#[33]⟩ ++ B pl) = placeR (B pl) (B s) := by
  have e : B s ++ ⟨#[33]⟩ ++ B pl = B (s ++ 33 :: pl) := by
    apply ByteArray.ext
    apply Array.toList_inj.1
    simp [B, ByteArray.data_append]
  have hi : Lib.indexByte (s ++ 33 :: pl) 33 = (s.length : Int) := index_at (fun j hj e => by rw [List.getElem?_append_left hj] at e; exact h (List.mem_of_getElem? e)) (by simp)
  rw [e, readA_readR]
  unfold readR
  simp only [show (B (s ++ 33 :: pl)).data.toList = s ++ 33 :: pl from rfl, hi]
  rw [if_pos (by omega), sub_l, sub_r]
theorem place_right {pl s s' : ByteArray} {c r : Int} (h : placeR pl s = some (s', c, r)) : rightC s' c r = true := by
  unfold placeR at h
  simp only at h
  split at h
  · cases h
  · split at h
    · cases h
    · split at h
      · rename_i hr
        cases h
        exact hr
      · cases h
end Go.Proofs.YteibnmlfipkmeaaGreatDoor

/- Both readers agree, on all that they are let read: by what is left. Nothing of the program. -/
namespace Go.Proofs.YteibnmlfipkmeaaGreatDoor
open Go Go.RowKit

/-- Tokens that a text may have: what their texts are. -/
def tkGood (t : Tk) : Prop := tkOK t ∧ (t.1 = 4 → (33 : UInt8) ∉ t.2.2)
/-- What a reference comes to, with both. -/
def RefC (L : List Tk) (i : Nat) (P : Option RP) (R : Option RR) : Prop := ∃ a x l', P = some (a, x, l') ∧
  ((x = -1 ∧ ∃ i', l' = L.drop i' ∧ i' ≤ L.length ∧ rN a = true ∧ cnt a + i ≤ i' ∧ R = some (a, i', -1)) ∨ (0 ≤ x ∧ ∃ a' i', i' ≤ L.length ∧ R = some (a', i', x)))

section
variable {L : List Tk} {en : Nat} {sh : ByteArray}

theorem get_drop (L : List Tk) (j : Nat) : (∃ t, L[j]? = some t ∧ L.drop j = t :: L.drop (j + 1) ∧ j < L.length) ∨ (L[j]? = none ∧ L.drop j = [] ∧ L.length ≤ j) := by
  cases h : L[j]? with
  | none => exact .inr ⟨rfl, List.drop_eq_nil_of_le (List.getElem?_eq_none_iff.1 h), List.getElem?_eq_none_iff.1 h⟩
  | some t => exact .inl ⟨t, rfl, drop_cons h, (List.getElem?_eq_some_iff.1 h).1⟩
theorem sgn_lt {j : Nat} {s : ByteArray} (hs : s ≠ ⟨#[]⟩) (h : sgn (L.drop j) = s) : j < L.length := by
  rcases get_drop L j with ⟨t, _, _, h3⟩ | ⟨_, h2, _⟩
  · exact h3
  · rw [h2] at h; exact absurd h.symm hs
theorem tail_drop (L : List Tk) (j : Nat) : (L.drop j).tail = L.drop (j + 1) := List.tail_drop

/-- One place, as both find it. -/
theorem cell_corr (hL : ∀ t ∈ L, tkGood t) (s : List UInt8) (hs : (33 : UInt8) ∉ s) (hlen : s.length ≤ 200) (j : Nat) (t : Tk) (h : L[j]? = some t) :
    (t.1 ≠ 3 ∧ cellP (B s) (L.drop j) = some (none, L.drop j)) ∨ (t.1 = 3 ∧ t.2.2.length ≤ 200 ∧ cellP (B s) (L.drop j) = some (placeR (B t.2.2) (B s), L.drop (j + 1))) := by
  have hg := hL t (List.mem_of_getElem? h)
  rw [drop_cons h]
  by_cases h3 : t.1 = 3
  · right
    refine ⟨h3, hg.1.1, ?_⟩
    simp only [cellP, h3, if_true]
    rw [if_pos ⟨hg.1.1, by rw [B_size]; exact hlen⟩, read_place hs]
  · left
    refine ⟨h3, ?_⟩
    simp only [cellP]
    rw [if_neg h3]
theorem ref2_corr (hL : ∀ t ∈ L, tkGood t) (s : List UInt8) (hs : (33 : UInt8) ∉ s) (hlen : s.length ≤ 200) (p j : Nat) (hj : j ≤ L.length) : RefC L j (ref2P (p : Int) (B s) (L.drop j)) (ref2R L (p : Int) (B s) j) := by
  have fail : ∀ l' i', i' ≤ L.length → ref2P (p : Int) (B s) (L.drop j) = some (zNd, (p : Int), l') → ref2R L (p : Int) (B s) j = some (zNd, i', (p : Int)) → RefC L j (ref2P (p : Int) (B s) (L.drop j)) (ref2R L (p : Int) (B s) j) :=
    fun l' i' hi h1 h2 => ⟨_, _, _, h1, .inr ⟨by omega, _, _, hi, h2⟩⟩
  rcases get_drop L j with ⟨t, h1, h2, h3⟩ | ⟨h1, h2, h3⟩
  · rcases cell_corr hL s hs hlen j t h1 with ⟨hk, hc⟩ | ⟨hk, hq, hc⟩
    · refine fail (L.drop j) j hj (by simp only [ref2P, hc]) ?_
      simp only [ref2R, h1]
      rw [if_pos hk]
    · cases hp : placeR (B t.2.2) (B s) with
      | none =>
        rw [hp] at hc
        refine fail (L.drop (j + 1)) j hj (by simp only [ref2P, hc]) ?_
        simp only [ref2R, h1]
        rw [if_neg (not_not_intro hk), if_neg (not_not_intro hq), hp]
      | some c =>
        rw [hp] at hc
        obtain ⟨c1, c2, c3⟩ := c
        by_cases h58 : sgn (L.drop (j + 1)) = ⟨#[58]⟩
        · have hi := isP_sgn (L := L) (sg_ne 58 []) (j + 1)
          rw [decide_eq_true h58] at hi
          have hj1 := sgn_lt (sg_ne 58 []) h58
          have eP : ref2P (p : Int) (B s) (L.drop j) = match cellP (B s) (L.drop (j + 2)) with
              | none => none
              | some (none, l3) => some (zNd, (p : Int), l3)
              | some (some d, l3) => if rangeB c1 c2 c3 d.1 d.2.1 d.2.2 = true then some (rangeNd c1 c2 c3 d.1 d.2.1 d.2.2, -1, l3) else some (zNd, (p : Int), l3) := by
            simp only [ref2P, hc]
            rw [if_pos h58, tail_drop]
            rfl
          have eR : ref2R L (p : Int) (B s) j = match L[j + 2]? with
              | none => some (zNd, j + 2, (p : Int))
              | some u => if u.1 ≠ 3 then some (zNd, j + 2, (p : Int)) else if ¬ u.2.2.length ≤ 200 then none else
                match placeR (B u.2.2) (B s) with
                | none => some (zNd, j + 2, (p : Int))
                | some d => if rangeB c1 c2 c3 d.1 d.2.1 d.2.2 = true then some (rangeNd c1 c2 c3 d.1 d.2.1 d.2.2, j + 3, -1) else some (zNd, j + 2, (p : Int)) := by
            simp only [ref2R, h1]
            rw [if_neg (not_not_intro hk), if_neg (not_not_intro hq), hp]
            simp only
            rw [hi, if_pos rfl]
            rfl
          rw [eP, eR] at fail ⊢
          rcases get_drop L (j + 2) with ⟨u, g1, g2, g3⟩ | ⟨g1, g2, g3⟩
          · rcases cell_corr hL s hs hlen (j + 2) u g1 with ⟨hk', hc'⟩ | ⟨hk', hq', hc'⟩
            · refine fail (L.drop (j + 2)) (j + 2) (by omega) (by simp only [hc']) ?_
              simp only [g1]
              rw [if_pos hk']
            · cases hp' : placeR (B u.2.2) (B s) with
              | none =>
                rw [hp'] at hc'
                refine fail (L.drop (j + 2 + 1)) (j + 2) (by omega) (by simp only [hc']) ?_
                simp only [g1]
                rw [if_neg (not_not_intro hk'), if_neg (not_not_intro hq'), hp']
              | some d =>
                rw [hp'] at hc'
                obtain ⟨d1, d2, d3⟩ := d
                have eR2 : (match L[j + 2]? with
                    | none => some (zNd, j + 2, (p : Int))
                    | some u => if u.1 ≠ 3 then some (zNd, j + 2, (p : Int)) else if ¬ u.2.2.length ≤ 200 then none else
                      match placeR (B u.2.2) (B s) with
                      | none => some (zNd, j + 2, (p : Int))
                      | some d => if rangeB c1 c2 c3 d.1 d.2.1 d.2.2 = true then some (rangeNd c1 c2 c3 d.1 d.2.1 d.2.2, j + 3, -1) else some (zNd, j + 2, (p : Int))) =
                    if rangeB c1 c2 c3 d1 d2 d3 = true then some (rangeNd c1 c2 c3 d1 d2 d3, j + 3, -1) else some (zNd, j + 2, (p : Int)) := by
                  simp only [g1]
                  rw [if_neg (not_not_intro hk'), if_neg (not_not_intro hq'), hp']
                rw [eR2] at fail ⊢
                by_cases hr : rangeB c1 c2 c3 d1 d2 d3 = true
                · refine ⟨rangeNd c1 c2 c3 d1 d2 d3, -1, L.drop (j + 2 + 1), by simp only [hc']; rw [if_pos hr], .inl ⟨rfl, j + 3, rfl, by omega, rN_range hr, by rw [cnt_leaf]; omega, by rw [if_pos hr]⟩⟩
                · refine fail (L.drop (j + 2 + 1)) (j + 2) (by omega) (by simp only [hc']; rw [if_neg hr]) (by rw [if_neg hr])
          · refine fail [] (j + 2) (by omega) (by rw [g2]; rfl) ?_
            simp only [g1]
        · have hi := isP_sgn (L := L) (sg_ne 58 []) (j + 1)
          rw [decide_eq_false h58] at hi
          refine ⟨cellNd c1 c2 c3, -1, L.drop (j + 1), ?_, .inl ⟨rfl, j + 1, rfl, by omega, rN_cell (place_right hp), by rw [cnt_leaf]; omega, ?_⟩⟩
          · simp only [ref2P, hc]
            rw [if_neg h58]
          · simp only [ref2R, h1]
            rw [if_neg (not_not_intro hk), if_neg (not_not_intro hq), hp]
            simp only
            rw [hi, if_neg (by decide)]
  · refine fail [] j hj (by rw [h2]; rfl) ?_
    simp only [ref2R, h1]
theorem ref_corr (hL : ∀ t ∈ L, tkGood t) {s0 : List UInt8} (hsh : sh = B s0) (hs : (33 : UInt8) ∉ s0) (hlen : s0.length ≤ 200) {i : Nat} {t : Tk} (h : L[i]? = some t) : RefC L i (refP sh (L.drop i)) (refR L sh i) := by
  subst hsh
  have hg := hL t (List.mem_of_getElem? h)
  have hlt := (List.getElem?_eq_some_iff.1 h).1
  have e := drop_cons h
  by_cases h4 : t.1 = 4
  · by_cases h33 : sgn (L.drop (i + 1)) = ⟨#[33]⟩
    · have hi := isP_sgn (L := L) (sg_ne 33 []) (i + 1)
      rw [decide_eq_true h33] at hi
      have hj1 := sgn_lt (sg_ne 33 []) h33
      have hP : refP (B s0) (L.drop i) = ref2P (t.2.1 : Int) (B t.2.2) (L.drop (i + 2)) := by
        rw [e]
        simp only [refP]
        rw [if_pos h4, if_pos h33, tail_drop]
      have hR : refR L (B s0) i = ref2R L (t.2.1 : Int) (B t.2.2) (i + 2) := by
        simp only [refR, h]
        rw [if_pos h4, hi, if_pos rfl]
      rw [hP, hR]
      obtain ⟨a, x, l', h1, h2⟩ := ref2_corr hL t.2.2 (hg.2 h4) hg.1.1 t.2.1 (i + 2) (by omega)
      refine ⟨a, x, l', h1, ?_⟩
      rcases h2 with ⟨hx, i', q1, q2, q3, q4, q5⟩ | h2
      · exact .inl ⟨hx, i', q1, q2, q3, by omega, q5⟩
      · exact .inr h2
    · have hi := isP_sgn (L := L) (sg_ne 33 []) (i + 1)
      rw [decide_eq_false h33] at hi
      refine ⟨zNd, (t.2.1 : Int), L.drop (i + 1), ?_, .inr ⟨by omega, zNd, i + 1, by omega, ?_⟩⟩
      · rw [e]
        simp only [refP]
        rw [if_pos h4, if_neg h33]
      · simp only [refR, h]
        rw [if_pos h4, hi, if_neg (by decide)]
  · have hP : refP (B s0) (L.drop i) = ref2P (t.2.1 : Int) (B s0) (L.drop i) := by
      rw [e]
      simp only [refP]
      rw [if_neg h4]
    have hR : refR L (B s0) i = ref2R L (t.2.1 : Int) (B s0) i := by
      simp only [refR, h]
      rw [if_neg h4]
    rw [hP, hR]
    exact ref2_corr hL s0 hs hlen t.2.1 i (by omega)

/-- What both come to. -/
def Cl (L : List Tk) (en : Nat) (sh : ByteArray) (w : W) (u : U) (i j : Nat) : Prop := ∃ a x l', Ev (fun n => pF sh (en : Int) n w (L.drop i) = some (a, x, l')) ∧
  ((x = -1 ∧ ∃ i', l' = L.drop i' ∧ i' ≤ L.length ∧ rN a = true ∧ cnt a + i ≤ i' ∧ Ev fun m => rF L (en : Int) sh m u j = some (a, i', -1)) ∨
    (0 ≤ x ∧ ∃ a' i', i' + i ≤ 2 * L.length ∧ Ev fun m => rF L (en : Int) sh m u j = some (a', i', x)))
theorem Cl.yes {w : W} {u : U} {i j : Nat} {a : Nd} {i' : Nat} (h1 : Ev fun n => stepP sh (en : Int) n (pF sh (en : Int) n) w (L.drop i) = some (a, -1, L.drop i')) (h2 : i' ≤ L.length) (h3 : rN a = true) (h4 : cnt a + i ≤ i')
    (h5 : Ev fun m => stepR L (en : Int) sh m (rF L (en : Int) sh m) u j = some (a, i', -1)) : Cl L en sh w u i j := ⟨a, -1, L.drop i', h1.up, .inl ⟨rfl, i', rfl, h2, h3, h4, h5.up⟩⟩
theorem Cl.no {w : W} {u : U} {i j : Nat} {a a' : Nd} {x : Int} {l' : List Tk} {i' : Nat} (h1 : Ev fun n => stepP sh (en : Int) n (pF sh (en : Int) n) w (L.drop i) = some (a, x, l')) (h2 : 0 ≤ x) (h3 : i' + i ≤ 2 * L.length)
    (h5 : Ev fun m => stepR L (en : Int) sh m (rF L (en : Int) sh m) u j = some (a', i', x)) : Cl L en sh w u i j := ⟨a, x, l', h1.up, .inr ⟨h2, a', i', h3, h5.up⟩⟩
theorem Cl.of_ref {w : W} {u : U} {i : Nat} (h : RefC L i (refP sh (L.drop i)) (refR L sh i)) (h0 : i ≤ L.length) (h1 : ∀ n F, stepP sh (en : Int) n F w (L.drop i) = refP sh (L.drop i)) (h2 : ∀ m F, stepR L (en : Int) sh m F u i = refR L sh i) : Cl L en sh w u i i := by
  obtain ⟨a, x, l', g1, g2⟩ := h
  rcases g2 with ⟨rfl, i', rfl, q2, q3, q4, q5⟩ | ⟨q1, a', i', q2, q3⟩
  · exact Cl.yes (i' := i') (Ev.all fun n => by rw [h1, g1]) q2 q3 q4 (Ev.all fun m => by rw [h2, q5])
  · exact Cl.no (a' := a') (i' := i') (Ev.all fun n => by rw [h1, g1]) q1 (by omega) (Ev.all fun m => by rw [h2, q3])
/-- The same as another. -/
theorem Cl.as {w w' : W} {u u' : U} {i j j' : Nat} (h : Cl L en sh w' u' i j') (h1 : ∀ n F, stepP sh (en : Int) n F w (L.drop i) = F w' (L.drop i)) (h2 : ∀ m F, stepR L (en : Int) sh m F u j = F u' j') : Cl L en sh w u i j := by
  obtain ⟨a, x, l', g1, g2⟩ := h
  refine ⟨a, x, l', (g1.mono fun n hn => show pF sh (en : Int) (n + 1) w (L.drop i) = _ from (h1 n _).trans hn).up, ?_⟩
  rcases g2 with ⟨q0, i', q1, q2, q3, q4, q5⟩ | ⟨q1, a', i', q2, q3⟩
  · exact .inl ⟨q0, i', q1, q2, q3, q4, (q5.mono fun m hm => show rF L (en : Int) sh (m + 1) u j = _ from (h2 m _).trans hm).up⟩
  · exact .inr ⟨q1, a', i', q2, (q3.mono fun m hm => show rF L (en : Int) sh (m + 1) u j = _ from (h2 m _).trans hm).up⟩
end
end Go.Proofs.YteibnmlfipkmeaaGreatDoor

/- Both readers agree: formulas, from the end of the text on. Nothing of the program. -/
namespace Go.Proofs.YteibnmlfipkmeaaGreatDoor
open Go Go.RowKit

/-- From some depth on, and as often as that. -/
def Ev2 (p : Nat → Nat → Prop) : Prop := ∃ M, ∀ n k, M ≤ n → M ≤ k → p n k
theorem Ev2.diag {p : Nat → Nat → Prop} (h : Ev2 p) : Ev fun n => p n n := by
  obtain ⟨M, hM⟩ := h
  exact ⟨M, fun n hn => hM n n hn hn⟩
/-- One round more. -/
theorem Ev2.up {p : Nat → Nat → Prop} {e : Nat → Prop} (he : Ev e) (h : ∀ n k, e n → p n (k + 1)) : Ev2 p := by
  obtain ⟨M, hM⟩ := he
  refine ⟨M + 1, fun n k hn hk => ?_⟩
  obtain ⟨k, rfl⟩ : ∃ j, k = j + 1 := ⟨k - 1, by omega⟩
  exact h n k (hM n (by omega))
theorem Ev2.next {p q : Nat → Nat → Prop} {e : Nat → Prop} (he : Ev e) (hq : Ev2 q) (h : ∀ n k, e n → q n k → p n (k + 1)) : Ev2 p := by
  obtain ⟨M, hM⟩ := he
  obtain ⟨M', hM'⟩ := hq
  refine ⟨max M M' + 1, fun n k hn hk => ?_⟩
  obtain ⟨k, rfl⟩ : ∃ j, k = j + 1 := ⟨k - 1, by omega⟩
  exact h n k (hM n (by omega)) (hM' n k (by omega) (by omega))
theorem Ev.next' {p q : Nat → Nat → Prop} {e : Nat → Prop} (he : Ev e) (hq : Ev2 q) (h : ∀ n k, e n → q n k → p n (k + 1)) : Ev2 p := Ev2.next he hq h
theorem Ev2.up2 {p : Nat → Nat → Prop} {e : Nat → Prop} (he : Ev e) (h : ∀ n k, e n → p n (k + 2)) : Ev2 p := by
  obtain ⟨M, hM⟩ := he
  refine ⟨M + 2, fun n k hn hk => ?_⟩
  obtain ⟨k, rfl⟩ : ∃ j, k = j + 2 := ⟨k - 2, by omega⟩
  exact h n k (hM n (by omega))
theorem loopP_no {P : List Tk → Option RP} {r k : Nat} {a : Nd} {x : Int} {l : List Tk} (h : ¬ (x = -1 ∧ rankP (sgn l) = r)) : loopP P r (k + 1) a x l = some (a, x, l) := by
  simp only [loopP]
  rw [if_neg h]
theorem loopP_yes {P : List Tk → Option RP} {r k : Nat} {a b : Nd} {x : Int} {t : Tk} {l l' : List Tk} (h : rankP (sgn (t :: l)) = r) (hP : P l = some (b, x, l')) : loopP P r (k + 1) a (-1) (t :: l) = loopP P r k (pairNd (B t.2.2) a b) x l' := by
  simp only [loopP]
  rw [if_pos ⟨trivial, h⟩, hP]
theorem cnt_one (a : Nd) : 1 ≤ cnt a := by rw [cnt_eq]; omega

section
variable {L : List Tk} {en : Nat} {sh : ByteArray}

theorem skip_yes {s : ByteArray} (hs : s ≠ ⟨#[]⟩) {j : Nat} (h : sgn (L.drop j) = s) : skipP (en : Int) s (L.drop j) = some (-1, L.drop (j + 1)) := by
  rcases get_drop L j with ⟨t, _, h2, h3⟩ | ⟨_, h2, _⟩
  · unfold skipP
    rw [if_pos h, h2]
  · rw [h2] at h; exact absurd h.symm hs
theorem skip_no {s : ByteArray} {j : Nat} (h : sgn (L.drop j) ≠ s) : skipP (en : Int) s (L.drop j) = some (atP (en : Int) (L.drop j), L.drop j) := by
  unfold skipP
  rw [if_neg h]
theorem isP_yes {s : ByteArray} (hs : s ≠ ⟨#[]⟩) {j : Nat} (h : sgn (L.drop j) = s) : isP L j s = true := by rw [isP_sgn hs, decide_eq_true h]
theorem isP_not {s : ByteArray} (hs : s ≠ ⟨#[]⟩) {j : Nat} (h : sgn (L.drop j) ≠ s) : isP L j s = false := by rw [isP_sgn hs, decide_eq_false h]

/-- What calls come to, from some kid on. -/
def CC (L : List Tk) (en : Nat) (sh nm : ByteArray) (i0 : Nat) (ks : List Nd) (j : Nat) : Prop :=
  ∃ a x l', Ev2 (fun n k => callsP (en : Int) (pF sh (en : Int) n .formula) nm k ks (L.drop j) = some (a, x, l')) ∧
    ((x = -1 ∧ ∃ i', l' = L.drop i' ∧ i' ≤ L.length ∧ rN a = true ∧ cnt a + i0 ≤ i' ∧ Ev2 fun m k => callsR L (en : Int) (rF L (en : Int) sh m (.pair 0)) nm k ks j = some (a, i', -1)) ∨
      (0 ≤ x ∧ ∃ a' i', i' + i0 ≤ 2 * L.length ∧ Ev2 fun m k => callsR L (en : Int) (rF L (en : Int) sh m (.pair 0)) nm k ks j = some (a', i', x)))
theorem calls_one {i0 : Nat} {nm : ByteArray} (hF : ∀ j, i0 < j → j ≤ L.length → Cl L en sh .formula (.pair 0) j j) (hnm : callB nm = true) (ks : List Nd) (j : Nat) (hj0 : i0 < j) (hj : j ≤ L.length) (hk : ks.length ≤ 19) (hr : rL ks = true) (hc : cntL ks + i0 + 1 ≤ j)
    (hnext : ∀ j1, j < j1 → j1 ≤ L.length → ∀ ks' : List Nd, ks'.length ≤ 19 → rL ks' = true → cntL ks' + i0 + 1 ≤ j1 → CC L en sh nm i0 ks' j1) : CC L en sh nm i0 ks j := by
  obtain ⟨a1, x1, l1, hp, hor⟩ := hF j hj0 hj
  rcases hor with ⟨rfl, j1, rfl, h1, h2, h3, hR⟩ | ⟨hx, a', i', h1, hR⟩
  · have hpos := cnt_one a1
    by_cases hcm : sgn (L.drop j1) = ⟨#[44]⟩ ∧ ks.length + 1 ≠ 20
    · have hlt := sgn_lt (sg_ne 44 []) hcm.1
      obtain ⟨a, x, l', g1, g2⟩ := hnext (j1 + 1) (by omega) (by omega) (ks ++ [a1]) (by simp; omega) (by rw [rL_snoc, hr, h2]; rfl) (by rw [cntL_snoc']; omega)
      have e1 := isP_yes (sg_ne 44 []) hcm.1
      have e2 : isP L j1 ⟨#[41]⟩ = false := isP_not (sg_ne 41 []) (by rw [hcm.1]; decide)
      have goR : ∀ (y : RR), Ev2 (fun m k => callsR L (en : Int) (rF L (en : Int) sh m (.pair 0)) nm k (ks ++ [a1]) (j1 + 1) = some y) → Ev2 fun m k => callsR L (en : Int) (rF L (en : Int) sh m (.pair 0)) nm k ks j = some y := fun y hy =>
        hR.next' hy (fun m k em q => by
          simp only [callsR, em]
          rw [if_neg (by omega), if_neg (by simp), e2, if_neg (by decide), if_pos ⟨e1, hcm.2⟩]
          exact q)
      refine ⟨a, x, l', hp.next' g1 (fun n k en' q => ?_), ?_⟩
      · simp only [callsP, en']
        rw [if_pos trivial, if_pos hcm, tail_drop]
        exact q
      · rcases g2 with ⟨q0, i', q1, q2, q3, q4, q5⟩ | ⟨q0, a', i', q1, q2⟩
        · exact .inl ⟨q0, i', q1, q2, q3, q4, goR _ q5⟩
        · exact .inr ⟨q0, a', i', q1, goR _ q2⟩
    · by_cases h41 : sgn (L.drop j1) = ⟨#[41]⟩
      · have hlt := sgn_lt (sg_ne 41 []) h41
        have e2 := isP_yes (sg_ne 41 []) h41
        refine ⟨callNd nm (ks ++ [a1]), -1, L.drop (j1 + 1), Ev2.up hp (fun n k en' => ?_), .inl ⟨rfl, j1 + 1, rfl, by omega, rN_call hnm (by simp; omega) (by rw [rL_snoc, hr, h2]; rfl), by rw [cnt_call, cntL_snoc']; omega, Ev2.up hR (fun m k em => ?_)⟩⟩
        · simp only [callsP, en']
          rw [if_pos trivial, if_neg hcm, skip_yes (sg_ne 41 []) h41]
        · simp only [callsR, em]
          rw [if_neg (by omega), if_neg (by simp), e2, if_pos rfl]
      · have e2 := isP_not (sg_ne 41 []) h41
        have e3 : ¬ (isP L j1 ⟨#[44]⟩ = true ∧ ks.length + 1 ≠ 20) := fun h => hcm ⟨by have := h.1; rw [isP_sgn (sg_ne 44 [])] at this; simpa using this, h.2⟩
        refine ⟨callNd nm (ks ++ [a1]), atP (en : Int) (L.drop j1), L.drop j1, Ev2.up hp (fun n k en' => ?_), .inr ⟨atP_pos _ _, zNd, j1, by omega, Ev2.up hR (fun m k em => ?_)⟩⟩
        · simp only [callsP, en']
          rw [if_pos trivial, if_neg hcm, skip_no h41]
        · simp only [callsR, em]
          rw [if_neg (by omega), if_neg (by simp), e2, if_neg (by decide), if_neg e3, atR_P]
  · refine ⟨callNd nm ks, x1, l1, Ev2.up hp (fun n k en' => ?_), .inr ⟨hx, callNd nm (ks ++ [a']), i', by omega, Ev2.up hR (fun m k em => ?_)⟩⟩
    · simp only [callsP, en']
      rw [if_neg (by omega)]
    · simp only [callsR, em]
      rw [if_pos hx]
theorem calls_corr {i0 : Nat} {nm : ByteArray} (hF : ∀ j, i0 < j → j ≤ L.length → Cl L en sh .formula (.pair 0) j j) (hnm : callB nm = true) : ∀ (d : Nat) (ks : List Nd) (j : Nat), L.length - j ≤ d → i0 < j → j ≤ L.length → ks.length ≤ 19 → rL ks = true → cntL ks + i0 + 1 ≤ j → CC L en sh nm i0 ks j := by
  intro d
  induction d with
  | zero =>
    intro ks j hd hj0 hj hk hr hc
    exact calls_one hF hnm ks j hj0 hj hk hr hc (fun j1 h1 h2 => by omega)
  | succ d ih =>
    intro ks j hd hj0 hj hk hr hc
    exact calls_one hF hnm ks j hj0 hj hk hr hc (fun j1 h1 h2 ks' h3 h4 h5 => ih ks' j1 (by omega) (by omega) h2 h3 h4 h5)

/-- What pairs come to, from some point on. -/
def LC (L : List Tk) (en : Nat) (sh : ByteArray) (r i0 : Nat) (a : Nd) (j : Nat) : Prop :=
  ∃ b x l', Ev2 (fun n k => loopP (pF sh (en : Int) n (.pairs (r + 1))) r k a (-1) (L.drop j) = some (b, x, l')) ∧
    ((x = -1 ∧ ∃ i', l' = L.drop i' ∧ i' ≤ L.length ∧ rN b = true ∧ cnt b + i0 ≤ i' ∧ Ev2 fun m k => loopR L (rF L (en : Int) sh m (.pair r)) (r - 1) k a j (-1) = some (b, i', -1)) ∨
      (0 ≤ x ∧ ∃ b' i', i' + i0 ≤ 2 * L.length ∧ Ev2 fun m k => loopR L (rF L (en : Int) sh m (.pair r)) (r - 1) k a j (-1) = some (b', i', x)))
theorem loop_one {i0 r : Nat} (hr1 : 1 ≤ r) (hr4 : r ≤ 4) (hF : ∀ j, i0 < j → j ≤ L.length → Cl L en sh (.pairs (r + 1)) (.pair r) j j) (a : Nd) (j : Nat) (hj0 : i0 ≤ j) (hj : j ≤ L.length) (ha : rN a = true) (hc : cnt a + i0 ≤ j)
    (hnext : ∀ j1, j < j1 → j1 ≤ L.length → ∀ a' : Nd, rN a' = true → cnt a' + i0 ≤ j1 → LC L en sh r i0 a' j1) : LC L en sh r i0 a j := by
  have hpos := cnt_one a
  by_cases hop : sgn (L.drop j) ∈ ranksP (r - 1)
  · have hrk : rankP (sgn (L.drop j)) = r := by have := (rank_mem (r := r - 1) (by omega) _).2 hop; omega
    have hlast := lastOp_yes (L := L) (i := j) (ranks_ne (r - 1)) hop
    have hne := ranks_ne _ _ hop
    have hlt := sgn_lt hne rfl
    rcases get_drop L j with ⟨t, g1, g2, g3⟩ | ⟨_, _, g3⟩
    case inr => omega
    have ht : B t.2.2 = sgn (L.drop j) := by
      rw [g2] at hne ⊢
      simp only [sgn] at hne ⊢
      by_cases h5 : t.1 = 5
      · rw [if_pos h5]
      · rw [if_neg h5] at hne; exact absurd rfl hne
    obtain ⟨b, x, l', hp, hor⟩ := hF (j + 1) (by omega) (by omega)
    have stepL : ∀ (n k : Nat) (b : Nd) (x : Int) (l' : List Tk), pF sh (en : Int) n (.pairs (r + 1)) (L.drop (j + 1)) = some (b, x, l') → loopP (pF sh (en : Int) n (.pairs (r + 1))) r (k + 1) a (-1) (L.drop j) = loopP (pF sh (en : Int) n (.pairs (r + 1))) r k (pairNd (sgn (L.drop j)) a b) x l' := by
      intro n k b x l' h
      rw [← ht]
      rw [g2] at hrk ⊢
      exact loopP_yes hrk h
    have stepR' : ∀ (m k : Nat) (b : Nd) (i' : Nat) (x : Int), rF L (en : Int) sh m (.pair r) (j + 1) = some (b, i', x) → loopR L (rF L (en : Int) sh m (.pair r)) (r - 1) (k + 1) a j (-1) = loopR L (rF L (en : Int) sh m (.pair r)) (r - 1) k (pairNd (sgn (L.drop j)) a b) i' x := by
      intro m k b i' x h
      rw [loopR, if_pos rfl, if_neg (by rw [hlast]; exact hne), h, hlast]
    rcases hor with ⟨rfl, j1, rfl, h1, h2, h3, hR⟩ | ⟨hx, b', i', h1, hR⟩
    · have hpb := cnt_one b
      obtain ⟨c, y, l2, q1, q2⟩ := hnext j1 (by omega) h1 (pairNd (sgn (L.drop j)) a b) (rN_pair (op_good hop) ha h2) (by rw [cnt_pair]; omega)
      refine ⟨c, y, l2, hp.next' q1 (fun n k en' q => by rw [stepL n k _ _ _ en']; exact q), ?_⟩
      rcases q2 with ⟨w0, i2, w1, w2, w3, w4, w5⟩ | ⟨w0, c', i2, w1, w2⟩
      · exact .inl ⟨w0, i2, w1, w2, w3, w4, hR.next' w5 (fun m k em q => by rw [stepR' m k _ _ _ em]; exact q)⟩
      · exact .inr ⟨w0, c', i2, w1, hR.next' w2 (fun m k em q => by rw [stepR' m k _ _ _ em]; exact q)⟩
    · refine ⟨pairNd (sgn (L.drop j)) a b, x, l', Ev2.up2 hp (fun n k en' => ?_), .inr ⟨hx, pairNd (sgn (L.drop j)) a b', i', by omega, Ev2.up2 hR (fun m k em => ?_)⟩⟩
      · rw [stepL n (k + 1) _ _ _ en', loopP_no (fun h => by omega)]
      · rw [stepR' m (k + 1) _ _ _ em, loopR, if_neg (by omega), if_neg (by omega)]
  · have hrk : ¬ rankP (sgn (L.drop j)) = r := fun h => hop ((rank_mem (r := r - 1) (by omega) _).1 (by omega))
    have hlast := lastOp_no (L := L) (i := j) (ranks_ne (r - 1)) hop
    refine ⟨a, -1, L.drop j, Ev2.up (Ev.all fun _ => trivial) (fun n k _ => ?_), .inl ⟨rfl, j, rfl, hj, ha, hc, Ev2.up (Ev.all fun _ => trivial) (fun m k _ => ?_)⟩⟩
    · rw [loopP_no (fun h => hrk h.2)]
    · rw [loopR, if_pos rfl, if_pos hlast]
theorem loop_corr {i0 r : Nat} (hr1 : 1 ≤ r) (hr4 : r ≤ 4) (hF : ∀ j, i0 < j → j ≤ L.length → Cl L en sh (.pairs (r + 1)) (.pair r) j j) : ∀ (d : Nat) (a : Nd) (j : Nat), L.length - j ≤ d → i0 ≤ j → j ≤ L.length → rN a = true → cnt a + i0 ≤ j → LC L en sh r i0 a j := by
  intro d
  induction d with
  | zero =>
    intro a j hd hj0 hj ha hc
    exact loop_one hr1 hr4 hF a j hj0 hj ha hc (fun j1 h1 h2 => by omega)
  | succ d ih =>
    intro a j hd hj0 hj ha hc
    exact loop_one hr1 hr4 hF a j hj0 hj ha hc (fun j1 h1 h2 a' h3 h4 => ih a' j1 (by omega) (by omega) h2 h3 h4)

/-- All that is known at one place, when it is known behind it. -/
theorem at_one (hN : L.length ≤ 1000) (hL : ∀ t ∈ L, tkGood t) {s0 : List UInt8} (hsh : sh = B s0) (hs : (33 : UInt8) ∉ s0) (hlen : s0.length ≤ 200) (i : Nat) (hi : i ≤ L.length)
    (hF : ∀ j, i < j → j ≤ L.length → Cl L en sh .formula (.pair 0) j j) (hP : ∀ r, 1 ≤ r → r ≤ 5 → ∀ j, i < j → j ≤ L.length → Cl L en sh (.pairs r) (.pair (r - 1)) j j) (hU : ∀ j, i < j → j ≤ L.length → Cl L en sh .unary .unary j j) :
    Cl L en sh .formula (.pair 0) i i ∧ (∀ r, 1 ≤ r → r ≤ 5 → Cl L en sh (.pairs r) (.pair (r - 1)) i i) ∧ Cl L en sh .unary .unary i i := by
  -- calls
  have hcall : ∀ t, L[i]? = some t → callB (B t.2.2) = true → sgn (L.drop (i + 1)) = ⟨#[40]⟩ → Cl L en sh .call (.call (B t.2.2)) i (i + 1) := by
    intro t ht hcb h40
    have hlt := sgn_lt (sg_ne 40 []) h40
    have e := drop_cons ht
    rcases get_drop L (i + 1) with ⟨u, g1, g2, g3⟩ | ⟨_, _, g3⟩
    case inr => omega
    rw [g2] at e
    by_cases h41 : sgn (L.drop (i + 2)) = ⟨#[41]⟩
    · have hlt2 := sgn_lt (sg_ne 41 []) h41
      have ei := isP_yes (sg_ne 41 []) h41
      refine Cl.yes (a := callNd (B t.2.2) []) (i' := i + 3) (Ev.all fun n => ?_) (by omega) (rN_call hcb (by simp) rfl) (by rw [cnt_call]; simp only [cntL]; omega) (Ev.all fun m => ?_)
      · rw [e]
        simp only [stepP]
        rw [if_pos h41, tail_drop]
      · simp only [stepR]
        rw [ei, if_pos rfl]
    · have ei := isP_not (sg_ne 41 []) h41
      obtain ⟨a, x, l', q1, q2⟩ := calls_corr hF hcb (L.length) [] (i + 2) (by omega) (by omega) (by omega) (by simp) rfl (by simp only [cntL]; omega)
      have hPs : Ev fun n => stepP sh (en : Int) n (pF sh (en : Int) n) .call (L.drop i) = some (a, x, l') := q1.diag.mono fun n hn => by
        rw [e]
        simp only [stepP]
        rw [if_neg h41]
        exact hn
      rcases q2 with ⟨rfl, i', rfl, w2, w3, w4, w5⟩ | ⟨w0, a', i', w1, w2⟩
      · exact Cl.yes (i' := i') hPs w2 w3 w4 (w5.diag.mono fun m hm => by simp only [stepR]; rw [ei, if_neg (by decide)]; exact hm)
      · exact Cl.no (a' := a') (i' := i') hPs w0 w1 (w2.diag.mono fun m hm => by simp only [stepR]; rw [ei, if_neg (by decide)]; exact hm)
  -- words
  have hword : ∀ t, L[i]? = some t → Cl L en sh .word .word i i := by
    intro t ht
    have hlt := (List.getElem?_eq_some_iff.1 ht).1
    have e := drop_cons ht
    by_cases hT : B t.2.2 = ⟨#[84, 82, 85, 69]⟩
    · exact Cl.yes (a := valNd 3 1 ⟨#[]⟩) (i' := i + 1) (Ev.all fun n => by rw [e]; simp only [stepP]; rw [if_pos hT]) (by omega) rN_true (by rw [cnt_leaf]; omega) (Ev.all fun m => by simp only [stepR, ht]; rw [if_pos hT])
    by_cases hFa : B t.2.2 = ⟨#[70, 65, 76, 83, 69]⟩
    · exact Cl.yes (a := valNd 3 0 ⟨#[]⟩) (i' := i + 1) (Ev.all fun n => by rw [e]; simp only [stepP]; rw [if_neg hT, if_pos hFa]) (by omega) rN_false (by rw [cnt_leaf]; omega) (Ev.all fun m => by simp only [stepR, ht]; rw [if_neg hT, if_pos hFa])
    by_cases h40 : sgn (L.drop (i + 1)) = ⟨#[40]⟩ ∧ callB (B t.2.2) = true
    · have e40 := isP_yes (sg_ne 40 []) h40.1
      exact (hcall t ht h40.2 h40.1).as (fun n F => by rw [e]; simp only [stepP]; rw [if_neg hT, if_neg hFa, if_pos h40]) (fun m F => by simp only [stepR, ht]; rw [if_neg hT, if_neg hFa, if_pos ⟨h40.2, e40⟩])
    have n40 : ¬ (callB (B t.2.2) = true ∧ isP L (i + 1) ⟨#[40]⟩ = true) := fun h => h40 ⟨by have := h.2; rw [isP_sgn (sg_ne 40 [])] at this; simpa using this, h.1⟩
    by_cases h33 : sgn (L.drop (i + 1)) = ⟨#[33]⟩ ∧ B t.2.2 = ⟨#[82, 69, 70]⟩
    · have e33 := isP_yes (sg_ne 33 []) h33.1
      have hlt2 := sgn_lt (sg_ne 33 []) h33.1
      exact Cl.yes (a := badNd) (i' := i + 2) (Ev.all fun n => by rw [e]; simp only [stepP]; rw [if_neg hT, if_neg hFa, if_neg h40, if_pos h33, tail_drop]) (by omega) rN_bad (by rw [cnt_leaf]; omega)
        (Ev.all fun m => by simp only [stepR, ht]; rw [if_neg hT, if_neg hFa, if_neg n40, if_pos ⟨h33.2, e33⟩])
    have n33 : ¬ (B t.2.2 = ⟨#[82, 69, 70]⟩ ∧ isP L (i + 1) ⟨#[33]⟩ = true) := fun h => h33 ⟨by have := h.2; rw [isP_sgn (sg_ne 33 [])] at this; simpa using this, h.1⟩
    exact Cl.of_ref (ref_corr hL hsh hs hlen ht) hi (fun n F => by rw [e]; simp only [stepP]; rw [if_neg hT, if_neg hFa, if_neg h40, if_neg h33]) (fun m F => by simp only [stepR, ht]; rw [if_neg hT, if_neg hFa, if_neg n40, if_neg n33])
  -- between parentheses
  have hinner : ∀ t, L[i]? = some t → t.1 ≠ 1 → t.1 ≠ 2 → sgn (L.drop i) = ⟨#[40]⟩ → Cl L en sh .inner .first i i := by
    intro t ht n1 n2 h40
    have hlt := (List.getElem?_eq_some_iff.1 ht).1
    have e := drop_cons ht
    have e40 := isP_yes (sg_ne 40 []) h40
    obtain ⟨a, x, l', q1, q2⟩ := hF (i + 1) (by omega) (by omega)
    rcases q2 with ⟨rfl, j, rfl, w2, w3, w4, w5⟩ | ⟨w0, a', j, w1, w2⟩
    · have hpa := cnt_one a
      by_cases h41 : sgn (L.drop j) = ⟨#[41]⟩
      · have e41 := isP_yes (sg_ne 41 []) h41
        have hlt2 := sgn_lt (sg_ne 41 []) h41
        refine Cl.yes (a := a) (i' := j + 1) (q1.mono fun n hn => ?_) (by omega) w3 (by omega) (w5.mono fun m hm => ?_)
        · rw [e]
          simp only [stepP, hn]
          rw [if_pos trivial, skip_yes (sg_ne 41 []) h41]
        · simp only [stepR, ht]
          rw [if_neg n1, if_neg n2, e40, if_pos rfl, hm]
          simp only
          rw [if_pos trivial, e41, if_neg (by decide)]
      · have e41 := isP_not (sg_ne 41 []) h41
        refine Cl.no (a := a) (a' := zNd) (i' := j) (l' := L.drop j) (q1.mono fun n hn => ?_) (atP_pos en (L.drop j)) (by omega) (w5.mono fun m hm => ?_)
        · rw [e]
          simp only [stepP, hn]
          rw [if_pos trivial, skip_no h41]
        · simp only [stepR, ht]
          rw [if_neg n1, if_neg n2, e40, if_pos rfl, hm]
          simp only
          rw [if_pos trivial, e41, if_pos rfl, atR_P]
    · refine Cl.no (a := a) (a' := a') (i' := j + 1) (l' := l') (q1.mono fun n hn => ?_) w0 (by omega) (w2.mono fun m hm => ?_)
      · rw [e]
        simp only [stepP, hn]
        rw [if_neg (by omega)]
      · simp only [stepR, ht]
        rw [if_neg n1, if_neg n2, e40, if_pos rfl, hm]
        simp only
        rw [if_neg (by omega), if_neg (by omega), if_pos (by omega)]
  -- what has no sign ahead
  have hsingle : Cl L en sh .single .first i i := by
    rcases get_drop L i with ⟨t, ht, e, hlt⟩ | ⟨h1, h2, h3⟩
    · have hg := hL t (List.mem_of_getElem? ht)
      by_cases h1 : t.1 = 1
      · cases hv : numP t.2.2 with
        | some v =>
          exact Cl.yes (a := valNd 1 (v : Int) ⟨#[]⟩) (i' := i + 1) (Ev.all fun n => by rw [e]; simp only [stepP]; rw [if_pos h1, if_pos hg.1, hv]) (by omega) (rN_int v) (by rw [cnt_leaf]; omega)
            (Ev.all fun m => by simp only [stepR, ht]; rw [if_pos h1, if_pos hg.1, hv])
        | none =>
          exact Cl.no (a := zNd) (a' := zNd) (i' := i) (x := (t.2.1 : Int)) (l' := L.drop (i + 1)) (Ev.all fun n => by rw [e]; simp only [stepP]; rw [if_pos h1, if_pos hg.1, hv]) (by omega) (by omega)
            (Ev.all fun m => by simp only [stepR, ht]; rw [if_pos h1, if_pos hg.1, hv])
      by_cases h2 : t.1 = 2
      · exact Cl.yes (a := valNd 2 0 (B t.2.2)) (i' := i + 1) (Ev.all fun n => by rw [e]; simp only [stepP]; rw [if_neg h1, if_pos h2]) (by omega) (rN_text (by rw [B_size]; exact hg.1.1)) (by rw [cnt_leaf]; omega)
          (Ev.all fun m => by simp only [stepR, ht]; rw [if_neg h1, if_pos h2])
      by_cases h40 : sgn (L.drop i) = ⟨#[40]⟩
      · have h5 : t.1 = 5 := by
          rw [e] at h40
          simp only [sgn] at h40
          by_cases h5 : t.1 = 5
          · exact h5
          · rw [if_neg h5] at h40; exact absurd h40.symm (sg_ne 40 [])
        obtain ⟨a, x, l', q1, q2⟩ := hinner t ht h1 h2 h40
        have h40' : sgn (t :: L.drop (i + 1)) = ⟨#[40]⟩ := by rw [← e]; exact h40
        refine ⟨a, x, l', (q1.mono fun n hn => show pF sh (en : Int) (n + 1) .single (L.drop i) = _ from ?_).up, q2⟩
        rw [show pF sh (en : Int) (n + 1) .single (L.drop i) = stepP sh (en : Int) n (pF sh (en : Int) n) .single (L.drop i) from rfl]
        rw [e] at hn ⊢
        simp only [stepP]
        rw [if_neg h1, if_neg h2, if_neg (by omega), if_neg (by omega), if_pos h40']
        exact hn
      have e40 := isP_not (sg_ne 40 []) h40
      have h40' : ¬ sgn (t :: L.drop (i + 1)) = ⟨#[40]⟩ := by rw [← e]; exact h40
      by_cases h3 : t.1 = 3
      · exact (hword t ht).as (fun n F => by rw [e]; simp only [stepP]; rw [if_neg h1, if_neg h2, if_pos h3]) (fun m F => by simp only [stepR, ht]; rw [if_neg h1, if_neg h2, e40, if_neg (by decide), if_neg (by omega), if_pos h3])
      by_cases h4 : t.1 = 4
      · exact Cl.of_ref (ref_corr hL hsh hs hlen ht) hi (fun n F => by rw [e]; simp only [stepP]; rw [if_neg h1, if_neg h2, if_neg h3, if_pos h4]) (fun m F => by simp only [stepR, ht]; rw [if_neg h1, if_neg h2, e40, if_neg (by decide), if_pos h4])
      exact Cl.no (a := zNd) (a' := zNd) (i' := i) (x := (t.2.1 : Int)) (l' := t :: L.drop (i + 1)) (Ev.all fun n => by rw [e]; simp only [stepP]; rw [if_neg h1, if_neg h2, if_neg h3, if_neg h4, if_neg h40']) (by omega) (by omega)
        (Ev.all fun m => by simp only [stepR, ht]; rw [if_neg h1, if_neg h2, e40, if_neg (by decide), if_neg h4, if_neg h3])
    · exact Cl.no (a := zNd) (a' := zNd) (i' := i) (x := (en : Int)) (l' := []) (Ev.all fun n => by rw [h2]; rfl) (by omega) (by omega) (Ev.all fun m => by simp only [stepR, h1])
  -- what may have one
  have hun : Cl L en sh .unary .unary i i := by
    by_cases h45 : sgn (L.drop i) = ⟨#[45]⟩
    · have hlt := sgn_lt (sg_ne 45 []) h45
      have e45 := isP_yes (sg_ne 45 []) h45
      rcases get_drop L i with ⟨t, g1, g2, g3⟩ | ⟨_, _, g3⟩
      case inr => omega
      have ht : B t.2.2 = ⟨#[45]⟩ := by
        have h45 := h45
        rw [g2] at h45
        simp only [sgn] at h45
        by_cases h5 : t.1 = 5
        · rw [if_pos h5] at h45; exact h45
        · rw [if_neg h5] at h45; exact absurd h45.symm (sg_ne 45 [])
      obtain ⟨a, x, l', q1, q2⟩ := hU (i + 1) (by omega) (by omega)
      have hPs : Ev fun n => stepP sh (en : Int) n (pF sh (en : Int) n) .unary (L.drop i) = some (unNd ⟨#[45]⟩ a, x, l') := q1.mono fun n hn => by
        simp only [stepP]
        rw [if_pos h45]
        simp only [g2, hn, ht]
      rcases q2 with ⟨rfl, j, rfl, w2, w3, w4, w5⟩ | ⟨w0, a', j, w1, w2⟩
      · exact Cl.yes (i' := j) hPs w2 (rN_un w3) (by rw [cnt_un]; omega) (w5.mono fun m hm => by simp only [stepR]; rw [e45, if_pos rfl, hm])
      · exact Cl.no (a' := unNd ⟨#[45]⟩ a') (i' := j) hPs w0 (by omega) (w2.mono fun m hm => by simp only [stepR]; rw [e45, if_pos rfl, hm])
    · have e45 := isP_not (sg_ne 45 []) h45
      exact hsingle.as (fun n F => by simp only [stepP]; rw [if_neg h45]) (fun m F => by simp only [stepR]; rw [e45, if_neg (by decide)])
  -- pairs, from the highest rank on
  have h5 : Cl L en sh (.pairs 5) (.pair 4) i i := hun.as (fun n F => by simp only [stepP]; rw [if_pos (by omega)]) (fun m F => by simp only [stepR]; rw [if_pos trivial])
  have hdown : ∀ r, 1 ≤ r → r ≤ 4 → Cl L en sh (.pairs (r + 1)) (.pair r) i i → Cl L en sh (.pairs r) (.pair (r - 1)) i i := by
    intro r h1 h4 hup
    obtain ⟨a, x, l', q1, q2⟩ := hup
    have hstepP : ∀ n a x l', pF sh (en : Int) n (.pairs (r + 1)) (L.drop i) = some (a, x, l') → stepP sh (en : Int) n (pF sh (en : Int) n) (.pairs r) (L.drop i) = loopP (pF sh (en : Int) n (.pairs (r + 1))) r n a x l' := by
      intro n a x l' hn
      simp only [stepP]
      rw [if_neg (by omega), if_neg (by omega), hn]
    have hr1 : r - 1 + 1 = r := by omega
    have hstepR : ∀ m a j x, rF L (en : Int) sh m (.pair r) i = some (a, j, x) → stepR L (en : Int) sh m (rF L (en : Int) sh m) (.pair (r - 1)) i = loopR L (rF L (en : Int) sh m (.pair r)) (r - 1) m a j x := by
      intro m a j x hm
      simp only [stepR]
      rw [if_neg (by omega), if_neg (by omega), hr1, hm]
    rcases q2 with ⟨rfl, j, rfl, w2, w3, w4, w5⟩ | ⟨w0, a', j, w1, w2⟩
    · obtain ⟨b, y, l2, v1, v2⟩ := loop_corr (i0 := i) h1 h4 (fun j hj hj2 => by have := hP (r + 1) (by omega) (by omega) j hj hj2; simpa using this) L.length a j (by omega) (by omega) w2 w3 w4
      have hPs := (q1.and v1.diag).mono (q := fun n => stepP sh (en : Int) n (pF sh (en : Int) n) (.pairs r) (L.drop i) = some (b, y, l2)) fun n hn => by rw [hstepP n _ _ _ hn.1]; exact hn.2
      rcases v2 with ⟨rfl, j2, rfl, u2, u3, u4, u5⟩ | ⟨u0, b', j2, u1, u2⟩
      · exact Cl.yes (i' := j2) hPs u2 u3 u4 ((w5.and u5.diag).mono fun m hm => by rw [hstepR m _ _ _ hm.1]; exact hm.2)
      · exact Cl.no (a' := b') (i' := j2) hPs u0 u1 ((w5.and u2.diag).mono fun m hm => by rw [hstepR m _ _ _ hm.1]; exact hm.2)
    · refine Cl.no (a := a) (a' := a') (i' := j) (x := x) (l' := l') ((q1.and ⟨1, fun n hn => hn⟩).mono fun n hn => ?_) w0 w1 ((w2.and ⟨1, fun n hn => hn⟩).mono fun m hm => ?_)
      · rw [hstepP n _ _ _ hn.1]
        obtain ⟨k, rfl⟩ : ∃ k, n = k + 1 := ⟨n - 1, by have := hn.2; omega⟩
        rw [loopP_no (fun h => by omega)]
      · rw [hstepR m _ _ _ hm.1]
        obtain ⟨k, rfl⟩ : ∃ k, m = k + 1 := ⟨m - 1, by have := hm.2; omega⟩
        rw [loopR, if_neg (by omega), if_neg (by omega)]
  have h4 := hdown 4 (by omega) (by omega) h5
  have h3 := hdown 3 (by omega) (by omega) h4
  have h2 := hdown 2 (by omega) (by omega) h3
  have h1 := hdown 1 (by omega) (by omega) h2
  refine ⟨?_, fun r hr1 hr5 => ?_, hun⟩
  · obtain ⟨a, x, l', q1, q2⟩ := h1
    exact ⟨a, x, l', (q1.mono fun n hn => show pF sh (en : Int) (n + 1) .formula (L.drop i) = _ from hn).up, q2⟩
  · rcases (show r = 1 ∨ r = 2 ∨ r = 3 ∨ r = 4 ∨ r = 5 by omega) with rfl | rfl | rfl | rfl | rfl
    · exact h1
    · exact h2
    · exact h3
    · exact h4
    · exact h5
theorem all_corr (hN : L.length ≤ 1000) (hL : ∀ t ∈ L, tkGood t) {s0 : List UInt8} (hsh : sh = B s0) (hs : (33 : UInt8) ∉ s0) (hlen : s0.length ≤ 200) : ∀ (d i : Nat), L.length - i ≤ d → i ≤ L.length → 
    Cl L en sh .formula (.pair 0) i i ∧ (∀ r, 1 ≤ r → r ≤ 5 → Cl L en sh (.pairs r) (.pair (r - 1)) i i) ∧ Cl L en sh .unary .unary i i := by
  intro d
  induction d with
  | zero => intro i hd hi; exact at_one hN hL hsh hs hlen i hi (fun j h1 h2 => by omega) (fun r _ _ j h1 h2 => by omega) (fun j h1 h2 => by omega)
  | succ d ih => intro i hd hi; exact at_one hN hL hsh hs hlen i hi (fun j h1 h2 => (ih j (by omega) h2).1) (fun r hr hr' j h1 h2 => (ih j (by omega) h2).2.1 r hr hr') (fun j h1 h2 => (ih j (by omega) h2).2.2)
end
end Go.Proofs.YteibnmlfipkmeaaGreatDoor
