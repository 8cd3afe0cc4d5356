/- Cells by their names: plain laws. Nothing of the program. -/
import Derived.Test.YteibnmlfipkmeaaGreatDoorAdR
import Derived.Shelf.Strconv.AtoiAll
import Derived.KernelRfl
import Derived.Lib.Bytealg
namespace Go.Proofs.YteibnmlfipkmeaaGreatDoor
open Go Go.RowKit

def gr (b : UInt8) : Bool := decide (65 ≤ b.toNat) && decide (b.toNat ≤ 90)
def dg (b : UInt8) : Bool := decide (48 ≤ b.toNat) && decide (b.toNat ≤ 57)
def dec3 (r : Nat) : List UInt8 := if r < 10 then [UInt8.ofNat (48 + r)] else if r < 100 then [UInt8.ofNat (48 + r / 10), UInt8.ofNat (48 + r % 10)] else [UInt8.ofNat (48 + r / 100), UInt8.ofNat (48 + r / 10 % 10), UInt8.ofNat (48 + r % 10)]
def colP (c : Nat) : List UInt8 := if c = 0 then [] else if c ≤ 26 then [UInt8.ofNat (64 + c)] else [UInt8.ofNat (64 + (c - 1) / 26), UInt8.ofNat (65 + (c - 1) % 26)]
/-- What letters count, as the project reckons it. -/
def colW (l : List UInt8) : Int := l.foldl (fun c b => IntKind.i64.wrap (IntKind.i64.wrap (IntKind.i64.wrap (c * 26) + IntKind.i64.wrap (IntKind.u8.wrap ((b.toNat : Int) - 65))) + 1)) 0
def colN (l : List UInt8) : Nat := l.foldl (fun c b => 26 * c + (b.toNat - 64)) 0
def rowN (l : List UInt8) : Nat := l.foldl (fun r b => 10 * r + (b.toNat - 48)) 0

theorem dec3_is (r : Nat) (h : r < 1000) : Lib.decDigits r = dec3 r := by
  unfold dec3
  split
  · rename_i h1; rw [Lib.decDigits, dif_pos h1]
  · rename_i h1
    rw [Lib.decDigits, dif_neg h1]
    split
    · rename_i h2; rw [Lib.decDigits, dif_pos (by omega)]; rfl
    · rename_i h2; rw [Lib.decDigits, dif_neg (by omega), Lib.decDigits, dif_pos (by omega), Nat.div_div_eq_div_mul]; rfl
theorem all_lt {p : Nat → Bool} {n : Nat} (h : (List.range n).all p = true) {k : Nat} (hk : k < n) : p k = true := List.all_eq_true.1 h k (List.mem_range.2 hk)
theorem tab_atoi : ((List.range 1000).all fun r => match Lib.atoiAll (dec3 r) with | .ok v => decide (v = (r : Int)) | _ => false) = true := by kernel_rfl
theorem tab_dec : ((List.range 1000).all fun r => (dec3 r).all dg && decide ((dec3 r).length ≤ 3) && decide (0 < (dec3 r).length) && (decide (rowN (dec3 r) = r)) && (decide (r = 0) || decide ((dec3 r)[0]? ≠ some 48))) = true := by kernel_rfl
theorem tab_col : ((List.range 703).all fun c => (colP c).all gr && decide ((colP c).length ≤ 2) && decide (colN (colP c) = c) && decide (colW (colP c) = (c : Int))) = true := by kernel_rfl
theorem atoi_dec {r : Nat} (h : r < 1000) : Lib.atoiAll (dec3 r) = .ok (r : Int) := by
  have := all_lt tab_atoi h
  split at this
  · rename_i v hv; rw [hv, of_decide_eq_true this]
  · cases this
theorem dec_facts {r : Nat} (h : r < 1000) : (dec3 r).all dg = true ∧ (dec3 r).length ≤ 3 ∧ 0 < (dec3 r).length ∧ rowN (dec3 r) = r ∧ (r = 0 ∨ (dec3 r)[0]? ≠ some 48) := by
  have := all_lt tab_dec h
  simp only [Bool.and_eq_true, Bool.or_eq_true, decide_eq_true_eq] at this
  exact ⟨this.1.1.1.1, this.1.1.1.2, this.1.1.2, this.1.2, this.2⟩
theorem col_facts {c : Nat} (h : c < 703) : (colP c).all gr = true ∧ (colP c).length ≤ 2 ∧ colN (colP c) = c ∧ colW (colP c) = (c : Int) := by
  have := all_lt tab_col h
  simp only [Bool.and_eq_true, decide_eq_true_eq] at this
  exact ⟨this.1.1.1, this.1.1.2, this.1.2, this.2⟩

def showP (s : ByteArray) (c r : Nat) : ByteArray := ((s ++ ⟨#[33]⟩) ++ B (colP c)) ++ B (dec3 r)
/-- How a cell is written. -/
def showC (s : ByteArray) (c r : Int) : ByteArray := if rightC s c r then showP s c.toNat r.toNat else ⟨#[]⟩

theorem showP_B (a : List UInt8) (c r : Nat) : showP (B a) c r = B (a ++ 33 :: (colP c ++ dec3 r)) := by
  unfold showP
  rw [show (⟨#[33]⟩ : ByteArray) = B [33] from rfl, B_append, B_append, B_append]
  simp

theorem name_bytes {l : List UInt8} (h : nameB (B l) = true) : (33 : UInt8) ∉ l := by
  intro hm
  obtain ⟨j, hj⟩ := List.getElem?_of_mem hm
  have hlt : j < l.length := by
    rcases Nat.lt_or_ge j l.length with h' | h'
    · exact h'
    · simp [List.getElem?_eq_none h'] at hj
  have hb := byteV_B hj
  by_cases h0 : j = 0
  · subst h0
    have : nameB (B l) = false := nameB_first (by rw [show ((0 : Int)) = ((0 : Nat) : Int) from rfl, hb]; rfl)
    rw [this] at h; cases h
  · have : nameB (B l) = false := nameB_at (j := j) (by omega) hlt (by rw [hb]; rfl)
    rw [this] at h; cases h
theorem name_len {s : ByteArray} (h : nameB s = true) : s.size ≤ 8 := by
  simp only [nameB, Bool.and_eq_true, decide_eq_true_eq] at h
  exact h.1.1.2

theorem index_at : ∀ {l : List UInt8} {c : UInt8} {i : Nat}, (∀ j, j < i → l[j]? ≠ some c) → l[i]? = some c → Lib.indexByte l c = (i : Int)
  | [], c, i, _, h => by simp at h
  | b :: l, c, i, hn, h => by
    cases i with
    | zero => simp at h; subst h; simp [Lib.indexByte]
    | succ i =>
      have hb : ¬ b = c := fun e => hn 0 (by omega) (by simp [e])
      have ih := index_at (l := l) (c := c) (i := i) (fun j hj => by have := hn (j + 1) (by omega); simpa using this) (by simpa using h)
      simp only [Lib.indexByte, ih]
      simp [hb]
theorem index_none : ∀ {l : List UInt8} {c : UInt8}, c ∉ l → Lib.indexByte l c = -1
  | [], c, _ => by simp [Lib.indexByte]
  | b :: l, c, h => by
    simp only [List.mem_cons, not_or] at h
    have hb : ¬ b = c := fun e => h.1 e.symm
    simp only [Lib.indexByte, index_none h.2]
    simp [hb]
/-- Either there is no such byte, or there is a first one. -/
theorem first_at (l : List UInt8) (c : UInt8) : (c ∉ l ∧ Lib.indexByte l c = -1) ∨ ∃ a b, l = a ++ c :: b ∧ c ∉ a ∧ Lib.indexByte l c = (a.length : Int) := by
  by_cases h : c ∈ l
  · right
    obtain ⟨a, b, rfl, ha⟩ := List.eq_append_cons_of_mem h
    refine ⟨a, b, rfl, ha, index_at (fun j hj e => ?_) (by simp)⟩
    rw [List.getElem?_append_left hj] at e
    exact ha (List.mem_of_getElem? e)
  · exact .inl ⟨h, index_none h⟩

/-- What a text names, as the project finds it. -/
def readA3 (s sh pl : ByteArray) : Option (ByteArray × Int × Int) :=
  let k := (pl.data.toList.takeWhile gr).length
  match Lib.atoiAll (subV pl k pl.size).data.toList with
  | .ok row => if rightC sh (colW (subV pl 0 k).data.toList) row = true ∧ showC sh (colW (subV pl 0 k).data.toList) row = s then some (sh, colW (subV pl 0 k).data.toList, row) else none
  | _ => none
def readA (s : ByteArray) : Option (ByteArray × Int × Int) :=
  if 0 ≤ Lib.indexByte s.data.toList 33 then readA3 s (subV s 0 (Lib.indexByte s.data.toList 33)) (subV s (Lib.indexByte s.data.toList 33 + 1) s.size) else readA3 s s ⟨#[]⟩
/-- What a word names, as the reference finds it. -/
def placeR (pl sh : ByteArray) : Option (ByteArray × Int × Int) :=
  let l := pl.data.toList
  let k := ((l.take 3).takeWhile gr).length
  if k = l.length ∨ l.length - k > 3 ∨ l[k]? = some 48 then none
  else if (l.drop k).all dg = false then none
  else if rightC sh (colN (l.take k)) (rowN (l.drop k)) then some (sh, colN (l.take k), rowN (l.drop k)) else none
def readR (s : ByteArray) : Option (ByteArray × Int × Int) :=
  let i := Lib.indexByte s.data.toList 33
  if 0 ≤ i then placeR (subV s (i + 1) s.size) (subV s 0 i) else none

theorem take_gr {a b : List UInt8} (ha : a.all gr = true) (hb : ∀ x, b[0]? = some x → gr x = false) : (a ++ b).takeWhile gr = a := by
  rw [List.takeWhile_append_of_pos (fun x hx => List.all_eq_true.1 ha x hx)]
  cases b with
  | nil => simp
  | cons x b => simp [hb x rfl]

theorem gr_not_dg {x : UInt8} (h : dg x = true) : gr x = false := by
  simp only [dg, gr, Bool.and_eq_true, decide_eq_true_eq, Bool.and_eq_false_iff, decide_eq_false_iff_not] at *
  omega
theorem dec_head {r : Nat} (h : r < 1000) : ∀ x, (dec3 r)[0]? = some x → gr x = false := fun x hx => gr_not_dg (List.all_eq_true.1 (dec_facts h).1 x (List.mem_of_getElem? hx))

theorem sub_l (a b : List UInt8) : subV (B (a ++ 33 :: b)) 0 (a.length : Int) = B a := by
  have := subV_B (a ++ 33 :: b) 0 a.length
  rw [show ((0 : Int)) = ((0 : Nat) : Int) from rfl, this]; simp
theorem sub_r (a b : List UInt8) : subV (B (a ++ 33 :: b)) ((a.length : Int) + 1) ((B (a ++ 33 :: b)).size : Int) = B b := by
  rw [show ((a.length : Int) + 1) = ((a.length + 1 : Nat) : Int) from by omega, subV_B, B_size, List.take_length]
  congr 1
  simp

theorem readA_of {s : ByteArray} {c r : Nat} (h : rightC s c r = true) : readA (showP s c r) = some (s, (c : Int), (r : Int)) := by
  obtain ⟨a, rfl⟩ := B_of s
  obtain ⟨hn, h1, h2, h3, h4⟩ := rightC_iff.1 h
  have ha := name_bytes hn
  obtain ⟨hc1, hc2, hc3, hc4⟩ := col_facts (c := c) (by omega)
  have hi : Lib.indexByte (a ++ 33 :: (colP c ++ dec3 r)) 33 = (a.length : Int) := index_at (fun j hj e => by rw [List.getElem?_append_left hj] at e; exact ha (List.mem_of_getElem? e)) (by simp)
  rw [showP_B]
  unfold readA
  simp only [show (B (a ++ 33 :: (colP c ++ dec3 r))).data.toList = a ++ 33 :: (colP c ++ dec3 r) from rfl, hi]
  rw [if_pos (by omega), sub_l, sub_r]
  have hs : showC (B a) (c : Int) (r : Int) = B (a ++ 33 :: (colP c ++ dec3 r)) := by
    unfold showC
    rw [if_pos h, Int.toNat_natCast, Int.toNat_natCast, showP_B]
  unfold readA3
  simp only [show ∀ l : List UInt8, (B l).data.toList = l from fun _ => rfl, take_gr hc1 (dec_head (show r < 1000 by omega)), sub_drop, sub_take, List.drop_left, List.take_left, atoi_dec (show r < 1000 by omega), hc4]
  rw [if_pos ⟨h, hs⟩]
theorem readA_is {s sh : ByteArray} {c r : Int} (h : readA s = some (sh, c, r)) : rightC sh c r = true ∧ showP sh c.toNat r.toNat = s := by
  have key : ∀ sh0 pl, readA3 s sh0 pl = some (sh, c, r) → rightC sh c r = true ∧ showP sh c.toNat r.toNat = s := by
    intro sh0 pl h
    unfold readA3 at h
    simp only at h
    split at h
    · split at h
      · rename_i hc
        cases h
        refine ⟨hc.1, ?_⟩
        have := hc.2
        unfold showC at this
        rwa [if_pos hc.1] at this
      · cases h
    · cases h
  unfold readA at h
  split at h
  · exact key _ _ h
  · exact key _ _ h

theorem readR_of {s : ByteArray} {c r : Nat} (h : rightC s c r = true) : readR (showP s c r) = some (s, (c : Int), (r : Int)) := by
  obtain ⟨a, rfl⟩ := B_of s
  obtain ⟨hn, h1, h2, h3, h4⟩ := rightC_iff.1 h
  have ha := name_bytes hn
  obtain ⟨hc1, hc2, hc3, hc4⟩ := col_facts (c := c) (by omega)
  obtain ⟨hd1, hd2, hd3, hd4, hd5⟩ := dec_facts (r := r) (by omega)
  have hi : Lib.indexByte (a ++ 33 :: (colP c ++ dec3 r)) 33 = (a.length : Int) := index_at (fun j hj e => by rw [List.getElem?_append_left hj] at e; exact ha (List.mem_of_getElem? e)) (by simp)
  rw [showP_B]
  unfold readR
  simp only [show (B (a ++ 33 :: (colP c ++ dec3 r))).data.toList = a ++ 33 :: (colP c ++ dec3 r) from rfl, hi]
  rw [if_pos (by omega), sub_l, sub_r]
  unfold placeR
  have hk : (((colP c ++ dec3 r).take 3).takeWhile gr) = colP c := by
    rw [List.take_append, List.take_of_length_le (by omega)]
    refine take_gr hc1 (fun x hx => dec_head (show r < 1000 by omega) x ?_)
    rw [List.getElem?_take] at hx
    split at hx
    · exact hx
    · cases hx
  simp only [show ∀ l : List UInt8, (B l).data.toList = l from fun _ => rfl, hk, List.drop_left, List.take_left, hc3, hd4, hd1]
  rw [if_neg, if_neg (by simp), if_pos h]
  simp only [List.length_append, not_or]
  refine ⟨by omega, by omega, ?_⟩
  rw [List.getElem?_append_right (Nat.le_refl _), Nat.sub_self]
  exact hd5.resolve_left (by omega)

theorem ofNat_of {x : UInt8} {n : Nat} (h : n = x.toNat) : UInt8.ofNat n = x := by subst h; simp
theorem colP_of {g : List UInt8} (hg : g.all gr = true) (hl : g.length ≤ 3) (h1 : 1 ≤ colN g) (h2 : colN g ≤ 702) : colP (colN g) = g := by
  have hb : ∀ x ∈ g, 65 ≤ x.toNat ∧ x.toNat ≤ 90 := fun x hx => by
    have := List.all_eq_true.1 hg x hx
    simpa [gr] using this
  match g, hl with
  | [], _ => simp [colN] at h1
  | [a], _ =>
    have := hb a (by simp)
    have e : colN [a] = a.toNat - 64 := by simp [colN]
    rw [e] at *
    unfold colP
    rw [if_neg (by omega), if_pos (by omega), ofNat_of (x := a) (by omega)]
  | [a, b], _ =>
    have ha := hb a (by simp)
    have hb' := hb b (by simp)
    have e : colN [a, b] = 26 * (a.toNat - 64) + (b.toNat - 64) := by simp [colN]
    rw [e] at *
    unfold colP
    rw [if_neg (by omega), if_neg (by omega), ofNat_of (x := a) (by omega), ofNat_of (x := b) (by omega)]
  | [a, b, c], _ =>
    have ha := hb a (by simp)
    have hb' := hb b (by simp)
    have hc := hb c (by simp)
    have e : colN [a, b, c] = 26 * (26 * (a.toNat - 64) + (b.toNat - 64)) + (c.toNat - 64) := by simp [colN]
    omega
theorem dec3_of {g : List UInt8} (hg : g.all dg = true) (hl : g.length ≤ 3) (h0 : 0 < g.length) (h48 : g[0]? ≠ some 48) : dec3 (rowN g) = g := by
  have hb : ∀ x ∈ g, 48 ≤ x.toNat ∧ x.toNat ≤ 57 := fun x hx => by
    have := List.all_eq_true.1 hg x hx
    simpa [dg] using this
  have hn : ∀ a : UInt8, a ≠ 48 → a.toNat ≠ 48 := fun a h e => h (UInt8.toNat_inj.1 e)
  match g, hl with
  | [], _ => simp at h0
  | [a], _ =>
    have := hb a (by simp)
    have e : rowN [a] = a.toNat - 48 := by simp [rowN]
    rw [e]
    unfold dec3
    rw [if_pos (by omega), ofNat_of (x := a) (by omega)]
  | [a, b], _ =>
    have ha := hb a (by simp)
    have hb' := hb b (by simp)
    have := hn a (by simpa using h48)
    have e : rowN [a, b] = 10 * (a.toNat - 48) + (b.toNat - 48) := by simp [rowN]
    rw [e]
    unfold dec3
    rw [if_neg (by omega), if_pos (by omega), ofNat_of (x := a) (by omega), ofNat_of (x := b) (by omega)]
  | [a, b, c], _ =>
    have ha := hb a (by simp)
    have hb' := hb b (by simp)
    have hc := hb c (by simp)
    have := hn a (by simpa using h48)
    have e : rowN [a, b, c] = 10 * (10 * (a.toNat - 48) + (b.toNat - 48)) + (c.toNat - 48) := by simp [rowN]
    rw [e]
    unfold dec3
    rw [if_neg (by omega), if_neg (by omega), ofNat_of (x := a) (by omega), ofNat_of (x := b) (by omega), ofNat_of (x := c) (by omega)]

theorem readR_is {s sh : ByteArray} {c r : Int} (h : readR s = some (sh, c, r)) : rightC sh c r = true ∧ showP sh c.toNat r.toNat = s := by
  obtain ⟨l, rfl⟩ := B_of s
  unfold readR at h
  simp only [show (B l).data.toList = l from rfl] at h
  rcases first_at l 33 with ⟨_, hi⟩ | ⟨a, b, rfl, ha, hi⟩
  · rw [hi] at h; simp at h
  · simp only [hi] at h
    rw [if_pos (by omega), sub_l, sub_r] at h
    unfold placeR at h
    simp only [show (B b).data.toList = b from rfl] at h
    have htw : ∃ y, b.take 3 = (b.take 3).takeWhile gr ++ y := ⟨_, (List.takeWhile_append_dropWhile (p := gr) (l := b.take 3)).symm⟩
    generalize hg : (b.take 3).takeWhile gr = g at h htw
    have hgr : g.all gr = true := by rw [← hg]; exact List.all_takeWhile
    obtain ⟨y, hy⟩ := htw
    have hlen : g.length ≤ 3 := by
      have := congrArg List.length hy
      simp at this
      omega
    have hpre : b.take g.length = g := by
      have h1 : (b.take 3).take g.length = g := by rw [hy]; simp
      rwa [List.take_take, Nat.min_eq_left hlen] at h1
    rw [hpre] at h
    split at h
    · cases h
    · rename_i hc1
      split at h
      · cases h
      · rename_i hc2
        split at h
        · rename_i hR
          cases h
          refine ⟨hR, ?_⟩
          obtain ⟨_, r1, r2, r3, r4⟩ := rightC_iff.1 hR
          simp only [not_or] at hc1
          obtain ⟨e1, e2, e3⟩ := hc1
          have hgl : g.length ≤ b.length := by
            have := congrArg List.length hpre
            simp at this
            omega
          rw [Int.toNat_natCast, Int.toNat_natCast, showP_B, colP_of hgr hlen (by omega) (by omega), dec3_of (by simpa using hc2) (by simp; omega) (by simp; omega) (by rw [List.getElem?_drop]; exact e3)]
          rw [show g ++ List.drop g.length b = b from by conv => rhs; rw [← List.take_append_drop g.length b, hpre]]
        · cases h
theorem readA_readR (s : ByteArray) : readA s = readR s := by
  apply Option.ext
  rintro ⟨sh, c, r⟩
  constructor
  · intro h
    obtain ⟨h1, rfl⟩ := readA_is h
    obtain ⟨_, r1, r2, r3, r4⟩ := rightC_iff.1 h1
    have e1 : ((c.toNat : Nat) : Int) = c := by omega
    have e2 : ((r.toNat : Nat) : Int) = r := by omega
    have := readR_of (s := sh) (c := c.toNat) (r := r.toNat) (by rw [e1, e2]; exact h1)
    rwa [e1, e2] at this
  · intro h
    obtain ⟨h1, rfl⟩ := readR_is h
    obtain ⟨_, r1, r2, r3, r4⟩ := rightC_iff.1 h1
    have e1 : ((c.toNat : Nat) : Int) = c := by omega
    have e2 : ((r.toNat : Nat) : Int) = r := by omega
    have := readA_of (s := sh) (c := c.toNat) (r := r.toNat) (by rw [e1, e2]; exact h1)
    rwa [e1, e2] at this
theorem readA_show {s : ByteArray} {c r : Int} (h : rightC s c r = true) : readA (showC s c r) = some (s, c, r) := by
  obtain ⟨_, r1, r2, r3, r4⟩ := rightC_iff.1 h
  have e1 : ((c.toNat : Nat) : Int) = c := by omega
  have e2 : ((r.toNat : Nat) : Int) = r := by omega
  have := readA_of (s := s) (c := c.toNat) (r := r.toNat) (by rw [e1, e2]; exact h)
  rw [e1, e2] at this
  unfold showC
  rw [if_pos h]
  exact this
end Go.Proofs.YteibnmlfipkmeaaGreatDoor
