/- Formulas as plain data: what a node is, how deep, how many, which two are one. Nothing of the program. -/
import Derived.Test.YtacclfepjpmfoaaMPO
import Derived.Test.YtacclfepjpmfoaaMAd
namespace Go.Proofs.Ytacclfepjpmfoaa
open Go Go.RowKit

/-- A node's own fields. -/
structure Hd where
  k : Int
  op : ByteArray
  nm : ByteArray
  vk : Int
  vn : Int
  vs : ByteArray
  cs : ByteArray
  cc : Int
  cr : Int
  ts : ByteArray
  tc : Int
  tr : Int
/-- A node: without kids (the list is nil), or with a list of them. -/
inductive Nd where
  | leaf (h : Hd)
  | mk (h : Hd) (l : List Nd)

namespace Nd
def hd : Nd → Hd
  | .leaf h => h
  | .mk h _ => h
def ks : Nd → List Nd
  | .leaf _ => []
  | .mk _ l => l
end Nd

/-- A node's cells. -/
def cellsH (h : Hd) (K : V) : List V := [.x (.int .i64 h.k), .x (.string h.op), .x (.string h.nm), .x (.int .i64 h.vk), .x (.int .i64 h.vn), .x (.string h.vs), .x (.string h.cs), .x (.int .i64 h.cc), .x (.int .i64 h.cr), .x (.string h.ts), .x (.int .i64 h.tc), .x (.int .i64 h.tr), K]
mutual
def nodeV : Nd → V
  | .leaf h => .agg (cellsH h (.sl true 0 [] none))
  | .mk h l => .agg (cellsH h (.sl false 13 (nodesV l) none))
def nodesV : List Nd → List V
  | [] => []
  | n :: l => nodeV n :: nodesV l
end
theorem nodesV_map : ∀ l, nodesV l = l.map nodeV
  | [] => rfl
  | n :: l => by rw [nodesV, List.map_cons, nodesV_map l]
def kidsV : Nd → V
  | .leaf _ => .sl true 0 [] none
  | .mk _ l => .sl false 13 (l.map nodeV) none
theorem nodeV_eq (n : Nd) : nodeV n = .agg (cellsH n.hd (kidsV n)) := by
  cases n with
  | leaf h => rw [nodeV]; rfl
  | mk h l => rw [nodeV, nodesV_map]; rfl
theorem kids_form (n : Nd) : ∃ nl sz, kidsV n = .sl nl sz (n.ks.map nodeV) none ∧ (n.ks ≠ [] → sz = 13) := by
  cases n with
  | leaf h => exact ⟨true, 0, rfl, fun h => absurd rfl h⟩
  | mk h l => exact ⟨false, 13, rfl, fun _ => rfl⟩
theorem cellsH_inj {h h' : Hd} {K K' : V} (e : cellsH h K = cellsH h' K') : h = h' ∧ K = K' := by
  cases h; cases h'
  simp only [cellsH, List.cons.injEq, V.x.injEq, Value.int.injEq, Value.string.injEq, true_and, and_true] at e
  obtain ⟨rfl, rfl, rfl, rfl, rfl, rfl, rfl, rfl, rfl, rfl, rfl, rfl, rfl⟩ := e
  exact ⟨rfl, rfl⟩
mutual
theorem nodeV_inj : ∀ a b : Nd, nodeV a = nodeV b → a = b
  | .leaf h, .leaf h', e => by
    rw [nodeV, nodeV] at e
    rw [(cellsH_inj (V.agg.inj e)).1]
  | .mk h l, .mk h' l', e => by
    rw [nodeV, nodeV] at e
    obtain ⟨h1, h2⟩ := cellsH_inj (V.agg.inj e)
    have := (V.sl.inj h2).2.2.1
    rw [h1, nodesV_inj l l' this]
  | .leaf h, .mk h' l', e => by
    rw [nodeV, nodeV] at e
    have := (cellsH_inj (V.agg.inj e)).2
    cases this
  | .mk h l, .leaf h', e => by
    rw [nodeV, nodeV] at e
    have := (cellsH_inj (V.agg.inj e)).2
    cases this
theorem nodesV_inj : ∀ l l' : List Nd, nodesV l = nodesV l' → l = l'
  | [], [], _ => rfl
  | n :: l, n' :: l', e => by
    rw [nodesV, nodesV] at e
    obtain ⟨h1, h2⟩ := List.cons.inj e
    rw [nodeV_inj n n' h1, nodesV_inj l l' h2]
  | [], n' :: l', e => by rw [nodesV, nodesV] at e; cases e
  | n :: l, [], e => by rw [nodesV, nodesV] at e; cases e
end

/- A node's cells, kept shut. -/
theorem cells_len (n : Nd) : (nodeV n).cells.length = 13 := by rw [nodeV_eq]; rfl
theorem cells_take (n : Nd) : (nodeV n).cells.take 13 = (nodeV n).cells := by rw [← cells_len n, List.take_length]
theorem cells_agg (n : Nd) : V.agg (nodeV n).cells = nodeV n := by rw [nodeV_eq]; rfl
theorem cells_all (n : Nd) : (nodeV n).cells.all V.cell = true := by
  rw [nodeV_eq]
  cases n <;> rfl
theorem cells_drop (n : Nd) : (nodeV n).cells.drop 12 = [kidsV n] := by rw [nodeV_eq]; rfl
theorem cells_12 (n : Nd) : (nodeV n).cells[12]? = some (kidsV n) := by rw [nodeV_eq]; rfl
theorem node_dat (n : Nd) : (nodeV n).dat = true := by rw [nodeV_eq]; rfl
theorem node_bare (n : Nd) : (nodeV n).bare = nodeV n := by rw [nodeV_eq]; exact bare_agg _
theorem node_np (n : Nd) : (nodeV n).notPtr = true := by rw [nodeV_eq]; rfl
theorem node_keep (op : Op) (n : Nd) : keepV op (nodeV n) = nodeV n := by rw [nodeV_eq]; exact keepV_agg _ _
theorem node_form (n : Nd) : ∃ nl sz, nodeV n = .agg [.x (.int .i64 n.hd.k), .x (.string n.hd.op), .x (.string n.hd.nm), .x (.int .i64 n.hd.vk), .x (.int .i64 n.hd.vn), .x (.string n.hd.vs), .x (.string n.hd.cs), .x (.int .i64 n.hd.cc), .x (.int .i64 n.hd.cr), .x (.string n.hd.ts), .x (.int .i64 n.hd.tc), .x (.int .i64 n.hd.tr), .sl nl sz (n.ks.map nodeV) none] ∧ (n.ks ≠ [] → sz = 13) := by
  obtain ⟨nl, sz, h1, h2⟩ := kids_form n
  exact ⟨nl, sz, by rw [nodeV_eq, h1]; rfl, h2⟩
theorem kid_at {l : List Nd} {i : Nat} (h : i < l.length) : ∃ n, l[i]? = some n ∧ (l.map nodeV)[((i : Nat) : Int).toNat]? = some (nodeV n) := by
  have h1 : l[i]? = some l[i] := List.getElem?_eq_getElem h
  refine ⟨l[i], h1, ?_⟩
  rw [toNat_cast, List.getElem?_map, h1]
  rfl

mutual
/-- How many nodes. -/
def cnt : Nd → Nat
  | .leaf _ => 1
  | .mk _ l => 1 + cntL l
def cntL : List Nd → Nat
  | [] => 0
  | n :: l => cnt n + cntL l
end
mutual
/-- How deep. -/
def dN : Nd → Nat
  | .leaf _ => 1
  | .mk _ l => 1 + dL l
def dL : List Nd → Nat
  | [] => 0
  | n :: l => max (dN n) (dL l)
end
theorem cnt_eq (n : Nd) : cnt n = 1 + cntL n.ks := by cases n <;> simp [cnt, cntL, Nd.ks]
theorem dN_eq (n : Nd) : dN n = 1 + dL n.ks := by cases n <;> simp [dN, dL, Nd.ks]
theorem cnt_pos (n : Nd) : 1 ≤ cnt n := by rw [cnt_eq]; omega
theorem cntL_mem {n : Nd} {l : List Nd} (h : n ∈ l) : cnt n ≤ cntL l := by
  induction l with
  | nil => cases h
  | cons x l ih =>
    simp only [cntL]
    rcases List.mem_cons.1 h with rfl | h
    · omega
    · have := ih h; omega
theorem cntL_len (l : List Nd) : l.length ≤ cntL l := by
  induction l with
  | nil => simp
  | cons x l ih => simp only [cntL, List.length_cons]; have := cnt_pos x; omega
theorem dL_snoc (l : List Nd) (n : Nd) : dL (l ++ [n]) = max (dL l) (dN n) := by
  induction l with
  | nil => simp [dL]
  | cons x l ih => simp only [List.cons_append, dL, ih]; omega
mutual
theorem dN_cnt : ∀ n : Nd, dN n ≤ cnt n
  | .leaf h => by simp [dN, cnt]
  | .mk h l => by simp only [dN, cnt]; have := dL_cnt l; omega
theorem dL_cnt : ∀ l : List Nd, dL l ≤ cntL l
  | [] => by simp [dL]
  | n :: l => by simp only [dL, cntL]; have := dN_cnt n; have := dL_cnt l; omega
end
theorem take_snoc' {α : Type} {l : List α} {i : Nat} {x : α} (h : l[i]? = some x) : l.take (i + 1) = l.take i ++ [x] := by
  rw [List.take_add_one, h]; rfl

/-- All fields are the same, and how many kids. -/
def alikeB (h : Hd) (n : Nat) (h' : Hd) (n' : Nat) : Bool :=
  decide (h.k = h'.k) && (decide (h.op = h'.op) && (decide (h.nm = h'.nm) && ((decide (h.vk = h'.vk) && (decide (h.vn = h'.vn) && decide (h.vs = h'.vs))) &&
    ((decide (h.cs = h'.cs) && (decide (h.cc = h'.cc) && decide (h.cr = h'.cr))) && ((decide (h.ts = h'.ts) && (decide (h.tc = h'.tc) && decide (h.tr = h'.tr))) && decide ((n : Int) = (n' : Int)))))))
mutual
/-- Two nodes are one throughout. -/
def sameN : Nd → Nd → Bool
  | .leaf h, b => alikeB h 0 b.hd b.ks.length
  | .mk h l, b => alikeB h l.length b.hd b.ks.length && sameL l b.ks
def sameL : List Nd → List Nd → Bool
  | [], _ => true
  | _ :: _, [] => false
  | n :: l, n' :: l' => sameN n n' && sameL l l'
end
theorem sameN_eq (a b : Nd) : sameN a b = (alikeB a.hd a.ks.length b.hd b.ks.length && sameL a.ks b.ks) := by
  cases a <;> simp [sameN, sameL, Nd.hd, Nd.ks]
theorem alikeB_refl (h : Hd) (n : Nat) : alikeB h n h n = true := by simp [alikeB]
theorem alike_len {h h' : Hd} {n n' : Nat} (e : alikeB h n h' n' = true) : n = n' := by
  simp only [alikeB, Bool.and_eq_true, decide_eq_true_eq] at e
  omega
mutual
theorem sameN_refl : ∀ a : Nd, sameN a a = true
  | .leaf h => by simp only [sameN, Nd.hd, Nd.ks, List.length_nil, alikeB_refl]
  | .mk h l => by simp only [sameN, Nd.hd, Nd.ks, alikeB_refl, Bool.true_and]; exact sameL_refl l
theorem sameL_refl : ∀ l : List Nd, sameL l l = true
  | [] => by simp [sameL]
  | n :: l => by simp only [sameL, sameN_refl n, sameL_refl l, Bool.and_self]
end
/-- Two rows of one length: place by place. -/
theorem sameL_all {l l' : List Nd} (h : l.length = l'.length) : sameL l l' = true ↔ ∀ (i : Nat) (a b : Nd), l[i]? = some a → l'[i]? = some b → sameN a b = true := by
  induction l generalizing l' with
  | nil => simp [sameL]
  | cons x l ih =>
    cases l' with
    | nil => simp at h
    | cons y l' =>
      simp only [sameL, Bool.and_eq_true, ih (by simpa using h)]
      constructor
      · rintro ⟨h1, h2⟩ i a b ha hb
        cases i with
        | zero => simp at ha hb; subst ha hb; exact h1
        | succ i => exact h2 i a b (by simpa using ha) (by simpa using hb)
      · intro hh
        exact ⟨hh 0 x y rfl rfl, fun i a b ha hb => hh (i + 1) a b (by simpa using ha) (by simpa using hb)⟩

mutual
/-- No number is greater than an int64. -/
def smN : Nd → Prop
  | .leaf h => h.vn ≤ 9223372036854775807
  | .mk h l => h.vn ≤ 9223372036854775807 ∧ smL l
def smL : List Nd → Prop
  | [] => True
  | n :: l => smN n ∧ smL l
end
theorem smN_eq (n : Nd) : smN n ↔ n.hd.vn ≤ 9223372036854775807 ∧ smL n.ks := by cases n <;> simp [smN, smL, Nd.hd, Nd.ks]
theorem smL_of {l : List Nd} (h : ∀ n ∈ l, smN n) : smL l := by
  induction l with
  | nil => trivial
  | cons x l ih => exact ⟨h x (by simp), ih fun n hn => h n (List.mem_cons_of_mem _ hn)⟩

theorem argP_node (b : Nat → Option (List V)) (n : Nd) : argP b (nodeV n) = nodeV n := by rw [nodeV_eq]; exact argP_agg b _
theorem slotsP_node (n : Nd) (l : List V) : slotsP (nodeV n :: l) = slotsP l := by rw [nodeV_eq]; rfl
theorem marksP_node (n : Nd) (l : List V) : marksP (nodeV n :: l) = marksP l := by rw [nodeV_eq]; rfl
theorem datP_node (n : Nd) : (nodeV n).datP = true := by rw [nodeV_eq]; rfl
theorem slotP_node (k : Nat) (n : Nd) : slotP k (nodeV n) = nodeV n := by rw [nodeV_eq]; rfl
theorem resP_node (E : Env) (st : St) (d : Nat) (n : Nd) : resP E st (some d) (nodeV n) = st.put (some d) (nodeV n) := by rw [nodeV_eq]; exact resP_agg st E d _
theorem startBP_node (k : Nat) (n : Nd) (us : List V) : startBP k (nodeV n :: us) = startBP (k + 1) us := startBP_no (by rw [nodeV_eq]; rfl)
theorem outsOf_node (k : Nat) (n : Nd) (us : List V) (b : Nat → Option (List V)) : outsOf k (nodeV n :: us) b = outsOf (k + 1) us b := outsOf_no (by rw [nodeV_eq]; rfl)
theorem outsMp_node (k : Nat) (n : Nd) (us : List V) (t : Nat → V) : outsMp k (nodeV n :: us) t = outsMp (k + 1) us t := outsMp_no (by rw [nodeV_eq]; rfl)
theorem mapsP_node (n : Nd) (l : List V) : mapsP (nodeV n :: l) = mapsP l := by rw [nodeV_eq]; rfl
attribute [go_sem] outsMp_node mapsP_node outsOf_node startBP_node argP_node slotsP_node marksP_node datP_node slotP_node resP_node
attribute [go_sem] cells_len cells_take cells_agg cells_all cells_drop cells_12 node_dat node_bare node_np node_keep
end Go.Proofs.Ytacclfepjpmfoaa

/- Formulas: signs, names of functions, values and ranges that may stand in one: package tree and the reference, as functions of plain data. -/
namespace Go.Proofs.Ytacclfepjpmfoaa
open Go Go.RowKit
set_option linter.unusedSimpArgs false
/-- The signs of two sides. -/
def opB (s : ByteArray) : Bool := (decide (s = ⟨#[43]⟩) || (decide (s = ⟨#[45]⟩) || (decide (s = ⟨#[42]⟩) || (decide (s = ⟨#[47]⟩) || (decide (s = ⟨#[38]⟩) || (decide (s = ⟨#[61]⟩) || (decide (s = ⟨#[60, 62]⟩) || (decide (s = ⟨#[60]⟩) || (decide (s = ⟨#[62]⟩) || (decide (s = ⟨#[60, 61]⟩) || decide (s = ⟨#[62, 61]⟩)))))))))))
def FOp : List V → Option V
  | [.x (.string s)] => some (.x (.bool (opB s)))
  | _ => none
theorem sym_dec (o s : ByteArray) : decide (o = s) = decide (s = o) := by
  by_cases h : s = o
  · rw [decide_eq_true h, decide_eq_true h.symm]
  · rw [decide_eq_false h, decide_eq_false (Ne.symm h)]
def opsL : List ByteArray := [⟨#[43]⟩, ⟨#[45]⟩, ⟨#[42]⟩, ⟨#[47]⟩, ⟨#[38]⟩, ⟨#[61]⟩, ⟨#[60, 62]⟩, ⟨#[60]⟩, ⟨#[62]⟩, ⟨#[60, 61]⟩, ⟨#[62, 61]⟩]
set_option maxRecDepth 100000 in
theorem rop_fun : FunV 30 FOp := by
  refine fun_of_run (E := envOf []) (k := 1) (envOK_of _ trivial) (by kernel_rfl) Try.func30 rfl (fun a w => Try.call30 a w) Try.ntmps30 (by kernel_rfl) (by decide) (by decide) ?_
  intro us r hF hdat
  unfold FOp at hF
  split at hF
  case h_2 => cases hF
  rename_i s
  cases hF
  refine ⟨rfl, ?_⟩
  simp (decide := true) (maxDischargeDepth := 200) only [go_sem, Try.results30]
  refine loop_of (X := {i : Nat // i ≤ 11 ∧ ∀ o ∈ opsL.take i, decide (s = o) = false}) (fun i => [(0, .x (.string s)), (3, .sl false 1 [.x (.string ⟨#[43]⟩), .x (.string ⟨#[45]⟩), .x (.string ⟨#[42]⟩), .x (.string ⟨#[47]⟩), .x (.string ⟨#[38]⟩), .x (.string ⟨#[61]⟩), .x (.string ⟨#[60, 62]⟩), .x (.string ⟨#[60]⟩), .x (.string ⟨#[62]⟩), .x (.string ⟨#[60, 61]⟩), .x (.string ⟨#[62, 61]⟩)] none), (4, .x (.int .i64 i.1))]) (fun _ => []) (fun i => 11 - i.1) ⟨0, by omega, fun o h => by simp at h⟩ (by simp (decide := true) only [go_sem]; rfl) trivial (fun ⟨i, hi, hok⟩ => ?_)
  have hcase : i = 0 ∨ i = 1 ∨ i = 2 ∨ i = 3 ∨ i = 4 ∨ i = 5 ∨ i = 6 ∨ i = 7 ∨ i = 8 ∨ i = 9 ∨ i = 10 ∨ i = 11 := by omega
  rcases hcase with rfl | rfl | rfl | rfl | rfl | rfl | rfl | rfl | rfl | rfl | rfl | rfl
  · cases he : decide (s = ⟨#[43]⟩)
    · have e := (sym_dec ⟨#[43]⟩ s).trans he
      simp (decide := true) (maxDischargeDepth := 200) only [go_sem, show ((0 : Nat) : Int) = 0 from rfl, show Int.toNat 0 = 0 from rfl, show ((11 : Nat) : Int) = 11 from rfl, Nat.reduceAdd, show bWrap .i64 (0 + 1) = 1 from bwrap_of (by unfold inR; omega), e, Try.results30]
      refine ⟨⟨1, by omega, fun o ho => ?_⟩, ?_, trivial, ?_⟩
      rotate_left
      · simp (decide := true) only [go_sem]; rfl
      · simp only; omega
      have ho : o ∈ opsL.take 0 ∨ o = ⟨#[43]⟩ := by simpa [opsL, or_assoc] using ho
      rcases ho with ho | rfl
      · exact hok o ho
      · exact he
    · have e := (sym_dec ⟨#[43]⟩ s).trans he
      have h2 : opB s = true := by simp only [opB, he, Bool.true_or, Bool.or_true]
      simp (decide := true) (maxDischargeDepth := 200) only [go_sem, show ((0 : Nat) : Int) = 0 from rfl, show Int.toNat 0 = 0 from rfl, show ((11 : Nat) : Int) = 11 from rfl, Nat.reduceAdd, show bWrap .i64 (0 + 1) = 1 from bwrap_of (by unfold inR; omega), e, h2, Try.results30]
  · cases he : decide (s = ⟨#[45]⟩)
    · have e := (sym_dec ⟨#[45]⟩ s).trans he
      simp (decide := true) (maxDischargeDepth := 200) only [go_sem, show ((1 : Nat) : Int) = 1 from rfl, show Int.toNat 1 = 1 from rfl, show ((11 : Nat) : Int) = 11 from rfl, Nat.reduceAdd, show bWrap .i64 (1 + 1) = 2 from bwrap_of (by unfold inR; omega), e, Try.results30]
      refine ⟨⟨2, by omega, fun o ho => ?_⟩, ?_, trivial, ?_⟩
      rotate_left
      · simp (decide := true) only [go_sem]; rfl
      · simp only; omega
      have ho : o ∈ opsL.take 1 ∨ o = ⟨#[45]⟩ := by simpa [opsL, or_assoc] using ho
      rcases ho with ho | rfl
      · exact hok o ho
      · exact he
    · have e := (sym_dec ⟨#[45]⟩ s).trans he
      have h2 : opB s = true := by simp only [opB, he, Bool.true_or, Bool.or_true]
      simp (decide := true) (maxDischargeDepth := 200) only [go_sem, show ((1 : Nat) : Int) = 1 from rfl, show Int.toNat 1 = 1 from rfl, show ((11 : Nat) : Int) = 11 from rfl, Nat.reduceAdd, show bWrap .i64 (1 + 1) = 2 from bwrap_of (by unfold inR; omega), e, h2, Try.results30]
  · cases he : decide (s = ⟨#[42]⟩)
    · have e := (sym_dec ⟨#[42]⟩ s).trans he
      simp (decide := true) (maxDischargeDepth := 200) only [go_sem, show ((2 : Nat) : Int) = 2 from rfl, show Int.toNat 2 = 2 from rfl, show ((11 : Nat) : Int) = 11 from rfl, Nat.reduceAdd, show bWrap .i64 (2 + 1) = 3 from bwrap_of (by unfold inR; omega), e, Try.results30]
      refine ⟨⟨3, by omega, fun o ho => ?_⟩, ?_, trivial, ?_⟩
      rotate_left
      · simp (decide := true) only [go_sem]; rfl
      · simp only; omega
      have ho : o ∈ opsL.take 2 ∨ o = ⟨#[42]⟩ := by simpa [opsL, or_assoc] using ho
      rcases ho with ho | rfl
      · exact hok o ho
      · exact he
    · have e := (sym_dec ⟨#[42]⟩ s).trans he
      have h2 : opB s = true := by simp only [opB, he, Bool.true_or, Bool.or_true]
      simp (decide := true) (maxDischargeDepth := 200) only [go_sem, show ((2 : Nat) : Int) = 2 from rfl, show Int.toNat 2 = 2 from rfl, show ((11 : Nat) : Int) = 11 from rfl, Nat.reduceAdd, show bWrap .i64 (2 + 1) = 3 from bwrap_of (by unfold inR; omega), e, h2, Try.results30]
  · cases he : decide (s = ⟨#[47]⟩)
    · have e := (sym_dec ⟨#[47]⟩ s).trans he
      simp (decide := true) (maxDischargeDepth := 200) only [go_sem, show ((3 : Nat) : Int) = 3 from rfl, show Int.toNat 3 = 3 from rfl, show ((11 : Nat) : Int) = 11 from rfl, Nat.reduceAdd, show bWrap .i64 (3 + 1) = 4 from bwrap_of (by unfold inR; omega), e, Try.results30]
      refine ⟨⟨4, by omega, fun o ho => ?_⟩, ?_, trivial, ?_⟩
      rotate_left
      · simp (decide := true) only [go_sem]; rfl
      · simp only; omega
      have ho : o ∈ opsL.take 3 ∨ o = ⟨#[47]⟩ := by simpa [opsL, or_assoc] using ho
      rcases ho with ho | rfl
      · exact hok o ho
      · exact he
    · have e := (sym_dec ⟨#[47]⟩ s).trans he
      have h2 : opB s = true := by simp only [opB, he, Bool.true_or, Bool.or_true]
      simp (decide := true) (maxDischargeDepth := 200) only [go_sem, show ((3 : Nat) : Int) = 3 from rfl, show Int.toNat 3 = 3 from rfl, show ((11 : Nat) : Int) = 11 from rfl, Nat.reduceAdd, show bWrap .i64 (3 + 1) = 4 from bwrap_of (by unfold inR; omega), e, h2, Try.results30]
  · cases he : decide (s = ⟨#[38]⟩)
    · have e := (sym_dec ⟨#[38]⟩ s).trans he
      simp (decide := true) (maxDischargeDepth := 200) only [go_sem, show ((4 : Nat) : Int) = 4 from rfl, show Int.toNat 4 = 4 from rfl, show ((11 : Nat) : Int) = 11 from rfl, Nat.reduceAdd, show bWrap .i64 (4 + 1) = 5 from bwrap_of (by unfold inR; omega), e, Try.results30]
      refine ⟨⟨5, by omega, fun o ho => ?_⟩, ?_, trivial, ?_⟩
      rotate_left
      · simp (decide := true) only [go_sem]; rfl
      · simp only; omega
      have ho : o ∈ opsL.take 4 ∨ o = ⟨#[38]⟩ := by simpa [opsL, or_assoc] using ho
      rcases ho with ho | rfl
      · exact hok o ho
      · exact he
    · have e := (sym_dec ⟨#[38]⟩ s).trans he
      have h2 : opB s = true := by simp only [opB, he, Bool.true_or, Bool.or_true]
      simp (decide := true) (maxDischargeDepth := 200) only [go_sem, show ((4 : Nat) : Int) = 4 from rfl, show Int.toNat 4 = 4 from rfl, show ((11 : Nat) : Int) = 11 from rfl, Nat.reduceAdd, show bWrap .i64 (4 + 1) = 5 from bwrap_of (by unfold inR; omega), e, h2, Try.results30]
  · cases he : decide (s = ⟨#[61]⟩)
    · have e := (sym_dec ⟨#[61]⟩ s).trans he
      simp (decide := true) (maxDischargeDepth := 200) only [go_sem, show ((5 : Nat) : Int) = 5 from rfl, show Int.toNat 5 = 5 from rfl, show ((11 : Nat) : Int) = 11 from rfl, Nat.reduceAdd, show bWrap .i64 (5 + 1) = 6 from bwrap_of (by unfold inR; omega), e, Try.results30]
      refine ⟨⟨6, by omega, fun o ho => ?_⟩, ?_, trivial, ?_⟩
      rotate_left
      · simp (decide := true) only [go_sem]; rfl
      · simp only; omega
      have ho : o ∈ opsL.take 5 ∨ o = ⟨#[61]⟩ := by simpa [opsL, or_assoc] using ho
      rcases ho with ho | rfl
      · exact hok o ho
      · exact he
    · have e := (sym_dec ⟨#[61]⟩ s).trans he
      have h2 : opB s = true := by simp only [opB, he, Bool.true_or, Bool.or_true]
      simp (decide := true) (maxDischargeDepth := 200) only [go_sem, show ((5 : Nat) : Int) = 5 from rfl, show Int.toNat 5 = 5 from rfl, show ((11 : Nat) : Int) = 11 from rfl, Nat.reduceAdd, show bWrap .i64 (5 + 1) = 6 from bwrap_of (by unfold inR; omega), e, h2, Try.results30]
  · cases he : decide (s = ⟨#[60, 62]⟩)
    · have e := (sym_dec ⟨#[60, 62]⟩ s).trans he
      simp (decide := true) (maxDischargeDepth := 200) only [go_sem, show ((6 : Nat) : Int) = 6 from rfl, show Int.toNat 6 = 6 from rfl, show ((11 : Nat) : Int) = 11 from rfl, Nat.reduceAdd, show bWrap .i64 (6 + 1) = 7 from bwrap_of (by unfold inR; omega), e, Try.results30]
      refine ⟨⟨7, by omega, fun o ho => ?_⟩, ?_, trivial, ?_⟩
      rotate_left
      · simp (decide := true) only [go_sem]; rfl
      · simp only; omega
      have ho : o ∈ opsL.take 6 ∨ o = ⟨#[60, 62]⟩ := by simpa [opsL, or_assoc] using ho
      rcases ho with ho | rfl
      · exact hok o ho
      · exact he
    · have e := (sym_dec ⟨#[60, 62]⟩ s).trans he
      have h2 : opB s = true := by simp only [opB, he, Bool.true_or, Bool.or_true]
      simp (decide := true) (maxDischargeDepth := 200) only [go_sem, show ((6 : Nat) : Int) = 6 from rfl, show Int.toNat 6 = 6 from rfl, show ((11 : Nat) : Int) = 11 from rfl, Nat.reduceAdd, show bWrap .i64 (6 + 1) = 7 from bwrap_of (by unfold inR; omega), e, h2, Try.results30]
  · cases he : decide (s = ⟨#[60]⟩)
    · have e := (sym_dec ⟨#[60]⟩ s).trans he
      simp (decide := true) (maxDischargeDepth := 200) only [go_sem, show ((7 : Nat) : Int) = 7 from rfl, show Int.toNat 7 = 7 from rfl, show ((11 : Nat) : Int) = 11 from rfl, Nat.reduceAdd, show bWrap .i64 (7 + 1) = 8 from bwrap_of (by unfold inR; omega), e, Try.results30]
      refine ⟨⟨8, by omega, fun o ho => ?_⟩, ?_, trivial, ?_⟩
      rotate_left
      · simp (decide := true) only [go_sem]; rfl
      · simp only; omega
      have ho : o ∈ opsL.take 7 ∨ o = ⟨#[60]⟩ := by simpa [opsL, or_assoc] using ho
      rcases ho with ho | rfl
      · exact hok o ho
      · exact he
    · have e := (sym_dec ⟨#[60]⟩ s).trans he
      have h2 : opB s = true := by simp only [opB, he, Bool.true_or, Bool.or_true]
      simp (decide := true) (maxDischargeDepth := 200) only [go_sem, show ((7 : Nat) : Int) = 7 from rfl, show Int.toNat 7 = 7 from rfl, show ((11 : Nat) : Int) = 11 from rfl, Nat.reduceAdd, show bWrap .i64 (7 + 1) = 8 from bwrap_of (by unfold inR; omega), e, h2, Try.results30]
  · cases he : decide (s = ⟨#[62]⟩)
    · have e := (sym_dec ⟨#[62]⟩ s).trans he
      simp (decide := true) (maxDischargeDepth := 200) only [go_sem, show ((8 : Nat) : Int) = 8 from rfl, show Int.toNat 8 = 8 from rfl, show ((11 : Nat) : Int) = 11 from rfl, Nat.reduceAdd, show bWrap .i64 (8 + 1) = 9 from bwrap_of (by unfold inR; omega), e, Try.results30]
      refine ⟨⟨9, by omega, fun o ho => ?_⟩, ?_, trivial, ?_⟩
      rotate_left
      · simp (decide := true) only [go_sem]; rfl
      · simp only; omega
      have ho : o ∈ opsL.take 8 ∨ o = ⟨#[62]⟩ := by simpa [opsL, or_assoc] using ho
      rcases ho with ho | rfl
      · exact hok o ho
      · exact he
    · have e := (sym_dec ⟨#[62]⟩ s).trans he
      have h2 : opB s = true := by simp only [opB, he, Bool.true_or, Bool.or_true]
      simp (decide := true) (maxDischargeDepth := 200) only [go_sem, show ((8 : Nat) : Int) = 8 from rfl, show Int.toNat 8 = 8 from rfl, show ((11 : Nat) : Int) = 11 from rfl, Nat.reduceAdd, show bWrap .i64 (8 + 1) = 9 from bwrap_of (by unfold inR; omega), e, h2, Try.results30]
  · cases he : decide (s = ⟨#[60, 61]⟩)
    · have e := (sym_dec ⟨#[60, 61]⟩ s).trans he
      simp (decide := true) (maxDischargeDepth := 200) only [go_sem, show ((9 : Nat) : Int) = 9 from rfl, show Int.toNat 9 = 9 from rfl, show ((11 : Nat) : Int) = 11 from rfl, Nat.reduceAdd, show bWrap .i64 (9 + 1) = 10 from bwrap_of (by unfold inR; omega), e, Try.results30]
      refine ⟨⟨10, by omega, fun o ho => ?_⟩, ?_, trivial, ?_⟩
      rotate_left
      · simp (decide := true) only [go_sem]; rfl
      · simp only; omega
      have ho : o ∈ opsL.take 9 ∨ o = ⟨#[60, 61]⟩ := by simpa [opsL, or_assoc] using ho
      rcases ho with ho | rfl
      · exact hok o ho
      · exact he
    · have e := (sym_dec ⟨#[60, 61]⟩ s).trans he
      have h2 : opB s = true := by simp only [opB, he, Bool.true_or, Bool.or_true]
      simp (decide := true) (maxDischargeDepth := 200) only [go_sem, show ((9 : Nat) : Int) = 9 from rfl, show Int.toNat 9 = 9 from rfl, show ((11 : Nat) : Int) = 11 from rfl, Nat.reduceAdd, show bWrap .i64 (9 + 1) = 10 from bwrap_of (by unfold inR; omega), e, h2, Try.results30]
  · cases he : decide (s = ⟨#[62, 61]⟩)
    · have e := (sym_dec ⟨#[62, 61]⟩ s).trans he
      simp (decide := true) (maxDischargeDepth := 200) only [go_sem, show ((10 : Nat) : Int) = 10 from rfl, show Int.toNat 10 = 10 from rfl, show ((11 : Nat) : Int) = 11 from rfl, Nat.reduceAdd, show bWrap .i64 (10 + 1) = 11 from bwrap_of (by unfold inR; omega), e, Try.results30]
      refine ⟨⟨11, by omega, fun o ho => ?_⟩, ?_, trivial, ?_⟩
      rotate_left
      · simp (decide := true) only [go_sem]; rfl
      · simp only; omega
      have ho : o ∈ opsL.take 10 ∨ o = ⟨#[62, 61]⟩ := by simpa [opsL, or_assoc] using ho
      rcases ho with ho | rfl
      · exact hok o ho
      · exact he
    · have e := (sym_dec ⟨#[62, 61]⟩ s).trans he
      have h2 : opB s = true := by simp only [opB, he, Bool.true_or, Bool.or_true]
      simp (decide := true) (maxDischargeDepth := 200) only [go_sem, show ((10 : Nat) : Int) = 10 from rfl, show Int.toNat 10 = 10 from rfl, show ((11 : Nat) : Int) = 11 from rfl, Nat.reduceAdd, show bWrap .i64 (10 + 1) = 11 from bwrap_of (by unfold inR; omega), e, h2, Try.results30]
  · have h2 : opB s = false := by
      have h0 : ∀ o ∈ opsL, decide (s = o) = false := hok
      simp only [opsL, List.mem_cons, List.not_mem_nil, or_false, forall_eq_or_imp, forall_eq] at h0
      obtain ⟨h10, h11, h12, h13, h14, h15, h16, h17, h18, h19, h20⟩ := h0
      simp only [opB, h10, h11, h12, h13, h14, h15, h16, h17, h18, h19, h20, Bool.or_self]
    simp (decide := true) (maxDischargeDepth := 200) only [go_sem, show ((11 : Nat) : Int) = 11 from rfl, show Int.toNat 11 = 11 from rfl, show ((11 : Nat) : Int) = 11 from rfl, Nat.reduceAdd, show bWrap .i64 (11 + 1) = 12 from bwrap_of (by unfold inR; omega), h2, Try.results30]

/-- Names that a call may have. -/
def callB (s : ByteArray) : Bool := decide (1 ≤ s.size) && decide (s.size ≤ 8) && !decide (s = ⟨#[84, 82, 85, 69]⟩) && !decide (s = ⟨#[70, 65, 76, 83, 69]⟩) && (List.range s.size).all fun j => greatI (byteV s j)
def FCall : List V → Option V
  | [.x (.string s)] => some (.x (.bool (callB s)))
  | _ => none
theorem callB_short {s : ByteArray} (h : s.size < 1) : callB s = false := by simp [callB]; omega
theorem callB_long {s : ByteArray} (h : 8 < s.size) : callB s = false := by simp [callB]; omega
theorem callB_T {s : ByteArray} (h : decide (s = ⟨#[84, 82, 85, 69]⟩) = true) : callB s = false := by simp only [callB, h, Bool.not_true, Bool.and_false, Bool.false_and]
theorem callB_F {s : ByteArray} (h : decide (s = ⟨#[70, 65, 76, 83, 69]⟩) = true) : callB s = false := by simp only [callB, h, Bool.not_true, Bool.and_false, Bool.false_and]
theorem callB_at {s : ByteArray} {j : Nat} (hj : j < s.size) (h : greatI (byteV s j) = false) : callB s = false := by
  cases hn : callB s with
  | false => rfl
  | true =>
    simp only [callB, Bool.and_eq_true] at hn
    have := List.all_eq_true.1 hn.2 j (List.mem_range.2 hj)
    rw [h] at this
    cases this
theorem callB_all {s : ByteArray} (h1 : 1 ≤ s.size) (h8 : s.size ≤ 8) (hT : decide (s = ⟨#[84, 82, 85, 69]⟩) = false) (hF : decide (s = ⟨#[70, 65, 76, 83, 69]⟩) = false) (h : ∀ j : Nat, j < s.size → greatI (byteV s j) = true) : callB s = true := by
  simp only [callB, Bool.and_eq_true, decide_eq_true_eq, hT, hF, Bool.not_false, and_true]
  exact ⟨⟨h1, h8⟩, List.all_eq_true.2 fun j hj => h j (List.mem_range.1 hj)⟩
set_option maxRecDepth 100000 in
theorem rcall_fun : FunV 31 FCall := by
  refine fun_of_run (E := envOf [(33, FGreat)]) (k := 1) (envOK_of _ ⟨rgreat_fun, trivial⟩) (by kernel_rfl) Try.func31 rfl (fun a w => Try.call31 a w) Try.ntmps31 (by kernel_rfl) (by decide) (by decide) ?_
  intro us r hF hdat
  unfold FCall at hF
  split at hF
  case h_2 => cases hF
  rename_i s
  cases hF
  refine ⟨rfl, ?_⟩
  have k1 : decide ((s.size : Int) < 1) = decide (s.size < 1) := decide_eq_decide.2 (by omega)
  have k2 : decide (8 < (s.size : Int)) = decide (8 < s.size) := decide_eq_decide.2 (by omega)
  cases hs : decide (s.size < 1)
  · cases hl : decide (8 < s.size)
    · have hs' := of_decide_eq_false hs
      have hl' := of_decide_eq_false hl
      cases hT : decide (s = ⟨#[84, 82, 85, 69]⟩)
      · cases hF2 : decide (s = ⟨#[70, 65, 76, 83, 69]⟩)
        · simp (decide := true) (maxDischargeDepth := 200) only [go_sem, k1, k2, hs, hl, hT, hF2, Try.results31]
          refine loop_of (X := {i : Nat // i ≤ s.size ∧ ∀ j : Nat, j < i → greatI (byteV s j) = true}) (fun i => [(0, .x (.string s)), (3, .x (.int .i64 i.1))]) (fun _ => []) (fun i => s.size - i.1) ⟨0, by omega, fun j h => by omega⟩ (by simp (decide := true) only [go_sem]; rfl) trivial (fun ⟨i, hi0, hok⟩ => ?_)
          by_cases hi : i < s.size
          · have c1 : decide ((i : Int) < (s.size : Int)) = true := decide_eq_true (by omega)
            have c2 : (0 : Int) ≤ (i : Int) := by omega
            have c3 : (i : Int) < (s.size : Int) := by omega
            have c4 := count_up (i := i) (by omega)
            cases hb : greatI (byteV s i)
            · have e := callB_at hi hb
              simp (decide := true) (maxDischargeDepth := 200) only [go_sem, c1, c2, c3, c4, hb, e, FGreat, Try.results31]
            · simp (decide := true) (maxDischargeDepth := 200) only [go_sem, c1, c2, c3, c4, hb, FGreat, Try.results31]
              refine ⟨⟨i + 1, by omega, fun j hj => ?_⟩, ?_, trivial, ?_⟩
              rotate_left
              · simp (decide := true) only [go_sem]
              · simp only; omega
              by_cases hj' : j = i
              · subst hj'; exact hb
              · exact hok j (by omega)
          · have c1 : decide ((i : Int) < (s.size : Int)) = false := decide_eq_false (by omega)
            have e := callB_all (by omega) (by omega) hT hF2 (fun j hj => hok j (by omega))
            simp (decide := true) (maxDischargeDepth := 200) only [go_sem, c1, e, Try.results31]
        · have e := callB_F hF2
          simp (decide := true) (maxDischargeDepth := 200) only [go_sem, k1, k2, hs, hl, hT, hF2, e, Try.results31]
      · have e := callB_T hT
        simp (decide := true) (maxDischargeDepth := 200) only [go_sem, k1, k2, hs, hl, hT, e, Try.results31]
    · have e := callB_long (of_decide_eq_true hl)
      cases hT : decide (s = ⟨#[84, 82, 85, 69]⟩) <;> cases hF2 : decide (s = ⟨#[70, 65, 76, 83, 69]⟩) <;> simp (decide := true) (maxDischargeDepth := 200) only [go_sem, k1, k2, hs, hl, hT, hF2, e, Try.results31]
  · have e := callB_short (of_decide_eq_true hs)
    cases hT : decide (s = ⟨#[84, 82, 85, 69]⟩) <;> cases hF2 : decide (s = ⟨#[70, 65, 76, 83, 69]⟩) <;> simp (decide := true) (maxDischargeDepth := 200) only [go_sem, k1, k2, hs, hT, hF2, e, Try.results31]

/-- Ranges that may stand in a formula. -/
def rangeB (s : ByteArray) (c r : Int) (s' : ByteArray) (c' r' : Int) : Bool := okA s c r s' c' r' && decide (areaN c r c' r' ≤ 400)
end Go.Proofs.Ytacclfepjpmfoaa

/- Formulas: one node's own fields: package tree and the reference, as functions of plain data. -/
namespace Go.Proofs.Ytacclfepjpmfoaa
open Go Go.RowKit
set_option linter.unusedSimpArgs false
/-- A node with whatever kids. -/
abbrev KR := Bool × Nat × List V
def rawV (p : Hd × KR) : V := .agg (cellsH p.1 (.sl p.2.1 p.2.2.1 p.2.2.2 none))
theorem rawV_inj (p q : Hd × KR) (e : rawV p = rawV q) : p = q := by
  obtain ⟨h, a, b, c⟩ := p
  obtain ⟨h', a', b', c'⟩ := q
  obtain ⟨h1, h2⟩ := cellsH_inj (V.agg.inj e)
  have h1 : h = h' := h1
  have h2 : V.sl a b c none = V.sl a' b' c' none := h2
  cases h1
  cases h2
  rfl
def enc1 (p : Hd × KR) : List V := [rawV p]
theorem enc1_inj (p q : Hd × KR) (e : enc1 p = enc1 q) : p = q := rawV_inj _ _ (List.cons.inj e).1
/-- A node has but what its kind names (the reference). -/
def bareB (h : Hd) (n : Nat) : Bool :=
  bif decide (h.k = 1) then decide (h.op = ⟨#[]⟩) && (decide (h.nm = ⟨#[]⟩) && ((decide (h.cs = ⟨#[]⟩) && (decide (h.cc = 0) && decide (h.cr = 0))) && ((decide (h.ts = ⟨#[]⟩) && (decide (h.tc = 0) && decide (h.tr = 0))) && (decide ((n : Int) = 0))))) else
  bif decide (h.k = 2) then decide (h.op = ⟨#[]⟩) && (decide (h.nm = ⟨#[]⟩) && ((decide (h.vk = 0) && (decide (h.vn = 0) && decide (h.vs = ⟨#[]⟩))) && ((decide (h.ts = ⟨#[]⟩) && (decide (h.tc = 0) && decide (h.tr = 0))) && (decide ((n : Int) = 0))))) else
  bif decide (h.k = 3) then decide (h.op = ⟨#[]⟩) && (decide (h.nm = ⟨#[]⟩) && ((decide (h.vk = 0) && (decide (h.vn = 0) && decide (h.vs = ⟨#[]⟩))) && (decide ((n : Int) = 0)))) else
  bif decide (h.k = 4) then decide (h.nm = ⟨#[]⟩) && ((decide (h.vk = 0) && (decide (h.vn = 0) && decide (h.vs = ⟨#[]⟩))) && ((decide (h.cs = ⟨#[]⟩) && (decide (h.cc = 0) && decide (h.cr = 0))) && ((decide (h.ts = ⟨#[]⟩) && (decide (h.tc = 0) && decide (h.tr = 0)))))) else
  bif decide (h.k = 5) then decide (h.nm = ⟨#[]⟩) && ((decide (h.vk = 0) && (decide (h.vn = 0) && decide (h.vs = ⟨#[]⟩))) && ((decide (h.cs = ⟨#[]⟩) && (decide (h.cc = 0) && decide (h.cr = 0))) && ((decide (h.ts = ⟨#[]⟩) && (decide (h.tc = 0) && decide (h.tr = 0)))))) else
  bif decide (h.k = 6) then decide (h.op = ⟨#[]⟩) && ((decide (h.vk = 0) && (decide (h.vn = 0) && decide (h.vs = ⟨#[]⟩))) && ((decide (h.cs = ⟨#[]⟩) && (decide (h.cc = 0) && decide (h.cr = 0))) && ((decide (h.ts = ⟨#[]⟩) && (decide (h.tc = 0) && decide (h.tr = 0)))))) else
  bif decide (h.k = 7) then decide (h.op = ⟨#[]⟩) && (decide (h.nm = ⟨#[]⟩) && ((decide (h.vk = 0) && (decide (h.vn = 0) && decide (h.vs = ⟨#[]⟩))) && ((decide (h.cs = ⟨#[]⟩) && (decide (h.cc = 0) && decide (h.cr = 0))) && ((decide (h.ts = ⟨#[]⟩) && (decide (h.tc = 0) && decide (h.tr = 0))) && (decide ((n : Int) = 0)))))) else false
noncomputable def FBare : List V → Option V := FE enc1 fun p => some (.x (.bool (bareB p.1 p.2.2.2.length)))
theorem FBare_eq (k : Int) (op : ByteArray) (nm : ByteArray) (vk : Int) (vn : Int) (vs : ByteArray) (cs : ByteArray) (cc : Int) (cr : Int) (ts : ByteArray) (tc : Int) (tr : Int) (nl : Bool) (sz : Nat) (es : List V) : FBare [.agg [.x (.int .i64 k), .x (.string op), .x (.string nm), .x (.int .i64 vk), .x (.int .i64 vn), .x (.string vs), .x (.string cs), .x (.int .i64 cc), .x (.int .i64 cr), .x (.string ts), .x (.int .i64 tc), .x (.int .i64 tr), .sl nl sz es none]] = some (.x (.bool (bareB ⟨k, op, nm, vk, vn, vs, cs, cc, cr, ts, tc, tr⟩ es.length))) :=
  FE_at enc1_inj _ (⟨k, op, nm, vk, vn, vs, cs, cc, cr, ts, tc, tr⟩, nl, sz, es)
set_option maxHeartbeats 8000000 in
set_option maxRecDepth 100000 in
theorem bare_fun : FunV 26 FBare := by
  refine fun_of_run (E := envOf []) (k := 1) (envOK_of _ trivial) (by kernel_rfl) Try.func26 rfl (fun a w => Try.call26 a w) Try.ntmps26 (by kernel_rfl) (by decide) (by decide) ?_
  intro us r hF hdat
  obtain ⟨⟨⟨k, op, nm, vk, vn, vs, cs, cc, cr, ts, tc, tr⟩, nl, sz, es⟩, hus, hG⟩ := FE_out hF
  clear hF
  subst hus
  have hF := hG
  clear hG
  cases hF
  refine ⟨rfl, ?_⟩
  simp only [enc1, rawV, cellsH]
  simp (decide := true) (maxDischargeDepth := 200) only [go_sem, Try.results26]
  repeat' first
    | simp (decide := true) (maxDischargeDepth := 200) only [go_sem, Try.results26, *]
    | refine guardK_openF (fun _ => ?_) (fun _ => ?_)
    | refine guardK_openN (fun _ => ?_) (fun _ => ?_)
    | refine guardK_openT (fun _ => ?_) (fun _ => ?_)
    | refine guardK_open (fun _ => ?_) (fun _ => ?_)
    | refine condK_openN (fun _ => ?_) (fun _ => ?_)
    | refine condK_open (fun _ => ?_) (fun _ => ?_)
  all_goals simp (decide := true) only [bareB, go_sem, *]

end Go.Proofs.Ytacclfepjpmfoaa

/- Formulas: those that may be, how deep, how many: package tree, the reference and the law, as functions of plain data. -/
namespace Go.Proofs.Ytacclfepjpmfoaa
open Go Go.RowKit
set_option linter.unusedSimpArgs false
def encN (a : Nd) : List V := [nodeV a]
def encNN (p : Nd × Nd) : List V := [nodeV p.1, nodeV p.2]
def encNI (p : Nd × Nat) : List V := [nodeV p.1, .x (.int .i64 (p.2 : Int))]
theorem encN_inj (a b : Nd) (e : encN a = encN b) : a = b := nodeV_inj _ _ (List.cons.inj e).1
theorem encNN_inj (p q : Nd × Nd) (e : encNN p = encNN q) : p = q := by
  obtain ⟨h1, h2⟩ := List.cons.inj e
  exact Prod.ext (nodeV_inj _ _ h1) (nodeV_inj _ _ (List.cons.inj h2).1)
theorem encNI_inj (p q : Nd × Nat) (e : encNI p = encNI q) : p = q := by
  obtain ⟨h1, h2⟩ := List.cons.inj e
  have h3 : (p.2 : Int) = (q.2 : Int) := (Value.int.inj (V.x.inj (List.cons.inj h2).1)).2
  exact Prod.ext (nodeV_inj _ _ h1) (by omega)
theorem sz_kids {sz : Nat} {l : List Nd} (hs : l ≠ [] → sz = 13) {i : Nat} (hi : i < l.length) : sz = 13 := hs (by intro e; rw [e] at hi; simp at hi)
theorem cnt_kid {nd c : Nd} {i : Nat} (h : nd.ks[i]? = some c) : cnt c < cnt nd := by
  have := cntL_mem (List.mem_of_getElem? h)
  rw [cnt_eq nd]; omega
theorem cnt_kids (nd : Nd) : nd.ks.length < cnt nd := by
  have := cntL_len nd.ks
  rw [cnt_eq nd]; omega
/-- A node whose fields are told. -/
theorem node_cases (nd : Nd) : ∃ (k : Int) (op : ByteArray) (nm : ByteArray) (vk : Int) (vn : Int) (vs : ByteArray) (cs : ByteArray) (cc : Int) (cr : Int) (ts : ByteArray) (tc : Int) (tr : Int) (l : List Nd) (nl : Bool) (sz : Nat), nd.hd = ⟨k, op, nm, vk, vn, vs, cs, cc, cr, ts, tc, tr⟩ ∧ nd.ks = l ∧ nodeV nd = .agg [.x (.int .i64 k), .x (.string op), .x (.string nm), .x (.int .i64 vk), .x (.int .i64 vn), .x (.string vs), .x (.string cs), .x (.int .i64 cc), .x (.int .i64 cr), .x (.string ts), .x (.int .i64 tc), .x (.int .i64 tr), .sl nl sz (l.map nodeV) none] ∧ (l ≠ [] → sz = 13) := by
  obtain ⟨nl, sz, hf, hs⟩ := node_form nd
  exact ⟨_, _, _, _, _, _, _, _, _, _, _, _, _, nl, sz, rfl, rfl, hf, hs⟩

def GDepth (nd : Nd) : Option V := if cnt nd ≤ 400 then some (.x (.int .i64 ((dN nd : Nat) : Int))) else none
theorem GDepth_of {nd : Nd} (h : cnt nd ≤ 400) : GDepth nd = some (.x (.int .i64 ((dN nd : Nat) : Int))) := if_pos h
set_option maxRecDepth 100000 in
theorem rdepth_fun : FunV 21 (FE encN GDepth) := by
  refine fun_rec cnt (fun a w => Try.call21 a w) (fun n ih => ?_)
  refine fun_of_run (E := envOf [(21, (FE encN fun a => if cnt a < n then GDepth a else none))]) (k := 1) (envOK_of _ ⟨ih, trivial⟩) (by kernel_rfl) Try.func21 rfl (fun a w => Try.call21 a w) Try.ntmps21 (by kernel_rfl) (by decide) (by decide) ?_
  intro us r hF hdat
  obtain ⟨nd, hus, hG⟩ := FE_out hF
  clear hF
  subst hus
  obtain ⟨hlt, hF⟩ := ite_some hG
  clear hG
  unfold GDepth at hF
  obtain ⟨h400, hF⟩ := ite_some hF
  cases hF
  clear hdat
  simp only [encN]
  obtain ⟨k, op, nm, vk, vn, vs, cs, cc, cr, ts, tc, tr, l, nl, sz, hh, hl, hf, hs⟩ := node_cases nd
  have hrec : ∀ (i : Nat) (c : Nd), l[i]? = some c → (FE encN fun a => if cnt a < n then GDepth a else none) [nodeV c] = some (.x (.int .i64 ((dN c : Nat) : Int))) := fun i c hc => by
    have h1 := cnt_kid (nd := nd) (c := c) (i := i) (by rw [hl]; exact hc)
    exact (FE_at encN_inj _ c).trans ((if_pos (by omega)).trans (GDepth_of (by omega)))
  have hlen : l.length < 400 := by have := cnt_kids nd; rw [hl] at this; omega
  have hdl : dL l ≤ 400 := by have := dL_cnt nd.ks; have := cnt_eq nd; rw [hl] at *; omega
  rw [hf, dN_eq, hl]
  refine ⟨rfl, ?_⟩
  simp (decide := true) (maxDischargeDepth := 200) only [go_sem, Try.results21]
  refine loop_of (X := {i : Nat // i ≤ l.length}) (fun i => [(1, .ptr 1 0), (3, .x (.int .i64 ((dL (l.take i.1) : Nat) : Int))), (4, .x (.int .i64 ((i.1 : Nat) : Int)))]) (fun _ => [(1, [.x (.int .i64 k), .x (.string op), .x (.string nm), .x (.int .i64 vk), .x (.int .i64 vn), .x (.string vs), .x (.string cs), .x (.int .i64 cc), .x (.int .i64 cr), .x (.string ts), .x (.int .i64 tc), .x (.int .i64 tr), .sl nl sz (l.map nodeV) none])]) (fun i => l.length - i.1) ⟨0, by omega⟩ (by simp (decide := true) only [go_sem] <;> (repeat' first | rfl | constructor)) (by simp (decide := true) only [go_sem] <;> (repeat' first | rfl | constructor)) (fun ⟨i, hi0⟩ => ?_)
  by_cases hi : i < l.length
  · obtain ⟨c, hc1, hc2⟩ := kid_at hi
    obtain rfl := sz_kids hs hi
    have hcc := hrec i c hc1
    obtain ⟨k', op', nm', vk', vn', vs', cs', cc', cr', ts', tc', tr', l', nl', sz', hh', hl', hf', hs'⟩ := node_cases c
    rw [hf'] at hc2 hcc
    have c1 : decide ((i : Int) < (l.length : Int)) = true := decide_eq_true (by omega)
    have c2 : (0 : Int) ≤ (i : Int) := by omega
    have c4 := count_up (i := i) (by omega)
    have ht := take_snoc' hc1
    by_cases hd : dL (l.take i) < dN c
    · have e : dL (l.take (i + 1)) = dN c := by rw [ht, dL_snoc]; omega
      have d1 : decide (((dL (l.take i) : Nat) : Int) < ((dN c : Nat) : Int)) = true := decide_eq_true (by omega)
      simp (decide := true) (maxDischargeDepth := 200) only [go_sem, List.length_map, c1, c2, c4, hc2, hcc, d1, Try.results21]
      refine ⟨⟨i + 1, by omega⟩, ?_, ?_, ?_⟩
      · simp (decide := true) only [go_sem, e]
      · simp (decide := true) only [go_sem]
      · simp only; omega
    · have e : dL (l.take (i + 1)) = dL (l.take i) := by rw [ht, dL_snoc]; omega
      have d1 : decide (((dL (l.take i) : Nat) : Int) < ((dN c : Nat) : Int)) = false := decide_eq_false (by omega)
      simp (decide := true) (maxDischargeDepth := 200) only [go_sem, List.length_map, c1, c2, c4, hc2, hcc, d1, Try.results21]
      refine ⟨⟨i + 1, by omega⟩, ?_, ?_, ?_⟩
      · simp (decide := true) only [go_sem, e]
      · simp (decide := true) only [go_sem]
      · simp only; omega
  · have c1 : decide ((i : Int) < (l.length : Int)) = false := decide_eq_false (by omega)
    have e : l.take i = l := List.take_of_length_le (by omega)
    have w : bWrap .i64 (((dL l : Nat) : Int) + 1) = ((1 + dL l : Nat) : Int) := by rw [bwrap_of (by unfold inR; omega)]; omega
    simp (decide := true) (maxDischargeDepth := 200) only [go_sem, List.length_map, c1, e, w, Try.results21]

/-- What a kind asks of the fields it names, as the reference has it. -/
def okR (h : Hd) (n : Nat) : Bool :=
  bif decide (h.k = 1) then rightV h.vk h.vn h.vs && ((decide (h.vk = 1) && decide (0 ≤ h.vn) || decide (h.vk = 2)) || decide (h.vk = 3)) else bif decide (h.k = 2) then rightC h.cs h.cc h.cr else
  bif decide (h.k = 3) then rangeB h.cs h.cc h.cr h.ts h.tc h.tr else bif decide (h.k = 4) then decide (h.op = ⟨#[45]⟩) && decide ((n : Int) = 1) else
  bif decide (h.k = 5) then opB h.op && decide ((n : Int) = 2) else bif decide (h.k = 6) then callB h.nm && decide ((n : Int) ≤ 20) else true
mutual
/-- Which formulas may be, but for their depth. -/
def rN : Nd → Bool
  | .leaf h => bareB h 0 && okR h 0
  | .mk h l => bareB h l.length && (rL l && okR h l.length)
def rL : List Nd → Bool
  | [] => true
  | n :: l => rN n && rL l
end
theorem rN_eq (a : Nd) : rN a = (bareB a.hd a.ks.length && (rL a.ks && okR a.hd a.ks.length)) := by
  cases a <;> simp [rN, rL, Nd.hd, Nd.ks]
theorem rL_snoc (l : List Nd) (n : Nd) : rL (l ++ [n]) = (rL l && rN n) := by
  induction l with
  | nil => simp [rL]
  | cons x l ih => simp only [List.cons_append, rL, ih, Bool.and_assoc]
theorem rL_bad {l : List Nd} {i : Nat} {c : Nd} (h : l[i]? = some c) (hc : rN c = false) : rL l = false := by
  induction l generalizing i with
  | nil => simp at h
  | cons x l ih =>
    cases i with
    | zero => simp at h; subst h; simp [rL, hc]
    | succ i => simp only [rL, ih (by simpa using h), Bool.and_false]
def GRight (nd : Nd) : Option V := if cnt nd ≤ 400 then some (.x (.bool (rN nd))) else none
theorem GRight_of {nd : Nd} (h : cnt nd ≤ 400) : GRight nd = some (.x (.bool (rN nd))) := if_pos h
set_option maxHeartbeats 8000000 in
set_option maxRecDepth 100000 in
theorem rrightn_fun : FunV 22 (FE encN GRight) := by
  refine fun_rec cnt (fun a w => Try.call22 a w) (fun n ih => ?_)
  refine fun_of_run (E := envOf [(22, (FE encN fun a => if cnt a < n then GRight a else none)), (26, FBare), (27, FRightV), (28, FRightC), (29, FArea), (30, FOp), (31, FCall)]) (k := 1) (envOK_of _ ⟨ih, bare_fun, rvright_fun, rright_fun, rarea_fun, rop_fun, rcall_fun, trivial⟩) (by kernel_rfl) Try.func22 rfl (fun a w => Try.call22 a w) Try.ntmps22 (by kernel_rfl) (by decide) (by decide) ?_
  intro us r hF hdat
  obtain ⟨nd, hus, hG⟩ := FE_out hF
  clear hF
  subst hus
  obtain ⟨hlt, hF⟩ := ite_some hG
  clear hG
  unfold GRight at hF
  obtain ⟨h400, hF⟩ := ite_some hF
  cases hF
  clear hdat
  simp only [encN]
  obtain ⟨k, op, nm, vk, vn, vs, cs, cc, cr, ts, tc, tr, l, nl, sz, hh, hl, hf, hs⟩ := node_cases nd
  have hrec : ∀ (i : Nat) (c : Nd), l[i]? = some c → (FE encN fun a => if cnt a < n then GRight a else none) [nodeV c] = some (.x (.bool (rN c))) := fun i c hc => by
    have h1 := cnt_kid (nd := nd) (c := c) (i := i) (by rw [hl]; exact hc)
    exact (FE_at encN_inj _ c).trans ((if_pos (by omega)).trans (GRight_of (by omega)))
  have hlen : l.length < 400 := by have := cnt_kids nd; rw [hl] at this; omega
  rw [hf, rN_eq, hl, hh]
  refine ⟨rfl, ?_⟩
  cases hb : bareB (⟨k, op, nm, vk, vn, vs, cs, cc, cr, ts, tc, tr⟩ : Hd) l.length
  · simp (decide := true) (maxDischargeDepth := 200) only [go_sem, FBare_eq, FRightV, FRightC, FArea, FOp, FCall, List.length_map, hb, Try.results22]
  · simp (decide := true) (maxDischargeDepth := 200) only [go_sem, FBare_eq, FRightV, FRightC, FArea, FOp, FCall, List.length_map, hb, Try.results22]
    refine loop_of (X := {i : Nat // i ≤ l.length ∧ rL (l.take i) = true}) (fun i => [(1, .ptr 1 0), (3, .x (.int .i64 ((i.1 : Nat) : Int)))]) (fun _ => [(1, [.x (.int .i64 k), .x (.string op), .x (.string nm), .x (.int .i64 vk), .x (.int .i64 vn), .x (.string vs), .x (.string cs), .x (.int .i64 cc), .x (.int .i64 cr), .x (.string ts), .x (.int .i64 tc), .x (.int .i64 tr), .sl nl sz (l.map nodeV) none])]) (fun i => l.length - i.1) ⟨0, by omega, by rw [List.take_zero]; rfl⟩ (by simp (decide := true) only [go_sem] <;> (repeat' first | rfl | constructor)) (by simp (decide := true) only [go_sem] <;> (repeat' first | rfl | constructor)) (fun ⟨i, hi0, hok⟩ => ?_)
    by_cases hi : i < l.length
    · obtain ⟨c, hc1, hc2⟩ := kid_at hi
      obtain rfl := sz_kids hs hi
      have hcc := hrec i c hc1
      obtain ⟨k', op', nm', vk', vn', vs', cs', cc', cr', ts', tc', tr', l', nl', sz', hh', hl', hf', hs'⟩ := node_cases c
      rw [hf'] at hc2 hcc
      have c1 : decide ((i : Int) < (l.length : Int)) = true := decide_eq_true (by omega)
      have c2 : (0 : Int) ≤ (i : Int) := by omega
      have c4 := count_up (i := i) (by omega)
      cases hr : rN c
      · have e := rL_bad hc1 hr
        simp (decide := true) (maxDischargeDepth := 200) only [go_sem, FBare_eq, FRightV, FRightC, FArea, FOp, FCall, List.length_map, c1, c2, c4, hc2, hcc, hr, e, Try.results22]
      · simp (decide := true) (maxDischargeDepth := 200) only [go_sem, FBare_eq, FRightV, FRightC, FArea, FOp, FCall, List.length_map, c1, c2, c4, hc2, hcc, hr, Try.results22]
        refine ⟨⟨i + 1, by omega, by rw [take_snoc' hc1, rL_snoc, hok, hr]; rfl⟩, ?_, ?_, ?_⟩
        · simp (decide := true) only [go_sem]
        · simp (decide := true) only [go_sem]
        · simp only; omega
    · have c1 : decide ((i : Int) < (l.length : Int)) = false := decide_eq_false (by omega)
      have hr : rL l = true := by rw [List.take_of_length_le (by omega)] at hok; exact hok
      rw [hr]
      cases hA : okA cs cc cr ts tc tr
      · have ha := areaV_no hA
        simp (decide := true) (maxDischargeDepth := 200) only [go_sem, FBare_eq, FRightV, FRightC, FArea, FOp, FCall, List.length_map, c1, ha, Try.results22]
        repeat' first
          | simp (decide := true) (maxDischargeDepth := 200) only [go_sem, FBare_eq, FRightV, FRightC, FArea, FOp, FCall, List.length_map, c1, ha, Try.results22, *]
          | refine guardK_openF (fun _ => ?_) (fun _ => ?_)
          | refine guardK_openN (fun _ => ?_) (fun _ => ?_)
          | refine guardK_openT (fun _ => ?_) (fun _ => ?_)
          | refine guardK_open (fun _ => ?_) (fun _ => ?_)
          | refine condK_openN (fun _ => ?_) (fun _ => ?_)
          | refine condK_open (fun _ => ?_) (fun _ => ?_)
        all_goals simp (decide := true) only [okR, rangeB, go_sem, *]
      · have ha := areaV_yes hA
        simp (decide := true) (maxDischargeDepth := 200) only [go_sem, FBare_eq, FRightV, FRightC, FArea, FOp, FCall, List.length_map, c1, ha, Try.results22]
        repeat' first
          | simp (decide := true) (maxDischargeDepth := 200) only [go_sem, FBare_eq, FRightV, FRightC, FArea, FOp, FCall, List.length_map, c1, ha, Try.results22, *]
          | refine guardK_openF (fun _ => ?_) (fun _ => ?_)
          | refine guardK_openN (fun _ => ?_) (fun _ => ?_)
          | refine guardK_openT (fun _ => ?_) (fun _ => ?_)
          | refine guardK_open (fun _ => ?_) (fun _ => ?_)
          | refine condK_openN (fun _ => ?_) (fun _ => ?_)
          | refine condK_open (fun _ => ?_) (fun _ => ?_)
        all_goals simp (decide := true) only [okR, rangeB, go_sem, *]


def GRightN (nd : Nd) : Option V := if cnt nd ≤ 400 then some (.x (.bool (decide ((dN nd : Int) ≤ 20) && rN nd))) else none
theorem FDepth_eq {nd : Nd} (h : cnt nd ≤ 400) : FE encN GDepth [nodeV nd] = some (.x (.int .i64 ((dN nd : Nat) : Int))) := (FE_at encN_inj _ nd).trans (GDepth_of h)
theorem FRightR_eq {nd : Nd} (h : cnt nd ≤ 400) : FE encN GRight [nodeV nd] = some (.x (.bool (rN nd))) := (FE_at encN_inj _ nd).trans (GRight_of h)
set_option maxRecDepth 100000 in
theorem rightnode_fun : FunV 12 (FE encN GRightN) := by
  refine fun_of_run (E := envOf [(21, (FE encN GDepth)), (22, (FE encN GRight))]) (k := 1) (envOK_of _ ⟨rdepth_fun, rrightn_fun, trivial⟩) (by kernel_rfl) Try.func12 rfl (fun a w => Try.call12 a w) Try.ntmps12 (by kernel_rfl) (by decide) (by decide) ?_
  intro us r hF hdat
  obtain ⟨nd, hus, hG⟩ := FE_out hF
  clear hF
  subst hus
  have hF := hG
  clear hG
  unfold GRightN at hF
  obtain ⟨h400, hF⟩ := ite_some hF
  cases hF
  have e1 := FDepth_eq h400
  have e2 := FRightR_eq h400
  simp only [encN]
  obtain ⟨k, op, nm, vk, vn, vs, cs, cc, cr, ts, tc, tr, l, nl, sz, hh, hl, hf, hs⟩ := node_cases nd
  generalize dN nd = dn at *
  generalize rN nd = rn at *
  rw [hf] at e1 e2 ⊢
  refine ⟨rfl, ?_⟩
  simp (decide := true) (maxDischargeDepth := 200) only [go_sem, e1, e2, Try.results12]
  repeat' first
    | simp (decide := true) (maxDischargeDepth := 200) only [go_sem, e1, e2, Try.results12, *]
    | refine guardK_openF (fun _ => ?_) (fun _ => ?_)
    | refine guardK_openN (fun _ => ?_) (fun _ => ?_)
    | refine guardK_openT (fun _ => ?_) (fun _ => ?_)
    | refine guardK_open (fun _ => ?_) (fun _ => ?_)
    | refine condK_openN (fun _ => ?_) (fun _ => ?_)
    | refine condK_open (fun _ => ?_) (fun _ => ?_)
  all_goals simp (decide := true) only [Bool.true_and, go_sem, *]

end Go.Proofs.Ytacclfepjpmfoaa

/- Formulas: how deep, and which two are one: package tree and the reference, as functions of plain data. -/
namespace Go.Proofs.Ytacclfepjpmfoaa
open Go Go.RowKit
set_option linter.unusedSimpArgs false
def GSame (p : Nd × Nd) : Option V := if cnt p.1 ≤ 400 ∧ cnt p.2 ≤ 400 then some (.x (.bool (sameN p.1 p.2))) else none
theorem GSame_of {a b : Nd} (h : cnt a ≤ 400) (h' : cnt b ≤ 400) : GSame (a, b) = some (.x (.bool (sameN a b))) := if_pos ⟨h, h'⟩
theorem sameL_no {l l' : List Nd} (h : l.length = l'.length) {i : Nat} {a b : Nd} (ha : l[i]? = some a) (hb : l'[i]? = some b) (hs : sameN a b = false) : sameL l l' = false := by
  cases e : sameL l l' with
  | false => rfl
  | true => rw [(sameL_all h).1 e i a b ha hb] at hs; cases hs
set_option maxHeartbeats 8000000 in
set_option maxRecDepth 100000 in
theorem rsame_fun : FunV 7 (FE encNN GSame) := by
  refine fun_rec (fun a => cnt a.1) (fun a w => Try.call7 a w) (fun n ih => ?_)
  refine fun_of_run (E := envOf [(7, (FE encNN fun a => if (fun a => cnt a.1) a < n then GSame a else none))]) (k := 2) (envOK_of _ ⟨ih, trivial⟩) (by kernel_rfl) Try.func7 rfl (fun a w => Try.call7 a w) Try.ntmps7 (by kernel_rfl) (by decide) (by decide) ?_
  intro us r hF hdat
  obtain ⟨⟨nd, ne⟩, hus, hG⟩ := FE_out hF
  clear hF
  subst hus
  obtain ⟨hlt, hF⟩ := ite_some hG
  clear hG
  unfold GSame at hF
  obtain ⟨⟨h400, h400'⟩, hF⟩ := ite_some hF
  cases hF
  clear hdat
  simp only [encNN] at hlt h400 h400' ⊢
  obtain ⟨k, op, nm, vk, vn, vs, cs, cc, cr, ts, tc, tr, l, nl, sz, hh, hl, hf, hs⟩ := node_cases nd
  obtain ⟨k2, op2, nm2, vk2, vn2, vs2, cs2, cc2, cr2, ts2, tc2, tr2, l2, nl2, sz2, hh2, hl2, hf2, hs2⟩ := node_cases ne
  have hrec : ∀ (i : Nat) (c d : Nd), l[i]? = some c → l2[i]? = some d → (FE encNN fun a => if cnt a.1 < n then GSame a else none) [nodeV c, nodeV d] = some (.x (.bool (sameN c d))) := fun i c d hc hd => by
    have h1 := cnt_kid (nd := nd) (c := c) (i := i) (by rw [hl]; exact hc)
    have h2 := cnt_kid (nd := ne) (c := d) (i := i) (by rw [hl2]; exact hd)
    exact (FE_at encNN_inj _ (c, d)).trans ((if_pos (by simp only; omega)).trans (GSame_of (by omega) (by omega)))
  have hlen : l.length < 400 := by have := cnt_kids nd; rw [hl] at this; omega
  rw [hf, hf2, sameN_eq, hl, hh, hl2, hh2]
  clear hf hf2 hh hh2 hl hl2
  refine ⟨rfl, ?_⟩
  simp (decide := true) (maxDischargeDepth := 200) only [go_sem, List.length_map, Try.results7]
  repeat' first
    | simp (decide := true) (maxDischargeDepth := 200) only [go_sem, List.length_map, Try.results7, *]
    | refine guardK_openF (fun _ => ?_) (fun _ => ?_)
    | refine guardK_openN (fun _ => ?_) (fun _ => ?_)
    | refine guardK_openT (fun _ => ?_) (fun _ => ?_)
    | refine guardK_open (fun _ => ?_) (fun _ => ?_)
    | refine condK_openN (fun _ => ?_) (fun _ => ?_)
    | refine condK_open (fun _ => ?_) (fun _ => ?_)
  all_goals first
    | (simp (decide := true) only [alikeB, go_sem, *]; done)
    | skip
  have hal : alikeB (⟨k, op, nm, vk, vn, vs, cs, cc, cr, ts, tc, tr⟩ : Hd) l.length (⟨k2, op2, nm2, vk2, vn2, vs2, cs2, cc2, cr2, ts2, tc2, tr2⟩ : Hd) l2.length = true := by simp (decide := true) only [alikeB, go_sem, *]
  have hll := alike_len hal
  rw [hal, Bool.true_and]
  clear hal
  refine loop_of (X := {i : Nat // i ≤ l.length ∧ ∀ (j : Nat) (a b : Nd), j < i → l[j]? = some a → l2[j]? = some b → sameN a b = true}) (fun i => [(2, .ptr 2 0), (3, .ptr 3 0), (5, .x (.int .i64 ((i.1 : Nat) : Int)))]) (fun _ => [(2, [.x (.int .i64 k), .x (.string op), .x (.string nm), .x (.int .i64 vk), .x (.int .i64 vn), .x (.string vs), .x (.string cs), .x (.int .i64 cc), .x (.int .i64 cr), .x (.string ts), .x (.int .i64 tc), .x (.int .i64 tr), .sl nl sz (l.map nodeV) none]), (3, [.x (.int .i64 k2), .x (.string op2), .x (.string nm2), .x (.int .i64 vk2), .x (.int .i64 vn2), .x (.string vs2), .x (.string cs2), .x (.int .i64 cc2), .x (.int .i64 cr2), .x (.string ts2), .x (.int .i64 tc2), .x (.int .i64 tr2), .sl nl2 sz2 (l2.map nodeV) none])]) (fun i => l.length - i.1) ⟨0, by omega, fun j a b h => by omega⟩ (by simp (decide := true) only [go_sem] <;> (repeat' first | rfl | constructor)) (by simp (decide := true) only [go_sem] <;> (repeat' first | rfl | constructor)) (fun ⟨i, hi0, hok⟩ => ?_)
  by_cases hi : i < l.length
  · obtain ⟨c, hc1, hc2⟩ := kid_at hi
    obtain ⟨d, hd1, hd2⟩ := kid_at (l := l2) (i := i) (by omega)
    obtain rfl := sz_kids hs hi
    obtain rfl := sz_kids (i := i) hs2 (by omega)
    have hcc := hrec i c d hc1 hd1
    obtain ⟨k3, op3, nm3, vk3, vn3, vs3, cs3, cc3, cr3, ts3, tc3, tr3, l3, nl3, sz3, hh3, hl3, hf3, hs3⟩ := node_cases c
    obtain ⟨k4, op4, nm4, vk4, vn4, vs4, cs4, cc4, cr4, ts4, tc4, tr4, l4, nl4, sz4, hh4, hl4, hf4, hs4⟩ := node_cases d
    rw [hf3] at hc2 hcc
    rw [hf4] at hd2 hcc
    have c1 : decide ((i : Int) < (l.length : Int)) = true := decide_eq_true (by omega)
    have c2 : (0 : Int) ≤ (i : Int) := by omega
    have c4 := count_up (i := i) (by omega)
    cases hr : sameN c d
    · have e := sameL_no hll hc1 hd1 hr
      simp (decide := true) (maxDischargeDepth := 200) only [go_sem, List.length_map, c1, c2, c4, hc2, hd2, hcc, hr, e, Try.results7]
    · simp (decide := true) (maxDischargeDepth := 200) only [go_sem, List.length_map, c1, c2, c4, hc2, hd2, hcc, hr, Try.results7]
      refine ⟨⟨i + 1, by omega, fun j a b hj ha hb => ?_⟩, ?_, ?_, ?_⟩
      rotate_left
      · simp (decide := true) only [go_sem]
      · simp (decide := true) only [go_sem]
      · simp only; omega
      by_cases hj' : j = i
      · subst hj'
        rw [hc1] at ha
        rw [hd1] at hb
        cases ha
        cases hb
        exact hr
      · exact hok j a b (by omega) ha hb
  · have c1 : decide ((i : Int) < (l.length : Int)) = false := decide_eq_false (by omega)
    have e : sameL l l2 = true := (sameL_all hll).2 (fun j a b ha hb => hok j a b (by have := lt_of_some ha; omega) ha hb)
    simp (decide := true) (maxDischargeDepth := 200) only [go_sem, List.length_map, c1, e, Try.results7]

/-- A row of nodes: nil or not, the cells of each, the nodes. -/
abbrev KV := Bool × Nat × List Nd
def okK (e : KV) : Prop := e.2.2 ≠ [] → e.2.1 = 13
/-- How many nodes are still to be looked at. -/
def nodes : List KV → Nat
  | [] => 0
  | e :: r => cntL e.2.2 + nodes r
/-- How deep it goes from here. -/
def deepR : List KV → Nat
  | [] => 0
  | e :: r => max (match e.2.2 with | [] => 0 | l => r.length + dL l) (deepR r)
theorem deep_push (a a' : Bool) (z z' : Nat) (c : Nd) (l : List Nd) (r : List KV) (dv : Nat) : max (max dv (r.length + 1)) (deepR ((a', z', c.ks) :: (a, z, l) :: r)) = max dv (deepR ((a, z, c :: l) :: r)) := by
  simp only [deepR, dL, dN_eq c, List.length_cons]
  cases hk : c.ks with
  | nil => cases l with
    | nil => simp [dL] <;> omega
    | cons y l => simp [dL] <;> omega
  | cons y k => cases l with
    | nil => simp only [dL]; omega
    | cons z l => simp only [dL]; omega
structure StD (nd : Nd) (dv : Nat) (r : List KV) : Prop where
  ok : ∀ e ∈ r, okK e
  deep : max dv (deepR r) = dN nd
  small : r.length + nodes r ≤ 401
  dv : dv ≤ 401
theorem StD.push {nd : Nd} {dv : Nat} {a a' : Bool} {z z' : Nat} {c : Nd} {l : List Nd} {r : List KV} (h : StD nd dv ((a, z, c :: l) :: r)) (hc : c.ks ≠ [] → z' = 13) : StD nd (max dv (r.length + 1)) ((a', z', c.ks) :: (a, 13, l) :: r) := by
  refine ⟨fun e he => ?_, by rw [deep_push a a' 13 z' c l r dv]; exact h.deep, ?_, ?_⟩
  · simp only [List.mem_cons] at he
    rcases he with rfl | rfl | he
    · exact hc
    · intro _; rfl
    · exact h.ok e (by simp [he])
  · have := h.small
    simp only [List.length_cons, nodes, cntL, cnt_eq c] at this ⊢
    omega
  · have h1 := h.small
    have h2 := h.dv
    simp only [List.length_cons] at h1
    omega
end Go.Proofs.Ytacclfepjpmfoaa

/- Formulas: which two are one, how large one is: package tree and the law, as functions of plain data. -/
namespace Go.Proofs.Ytacclfepjpmfoaa
open Go Go.RowKit
set_option linter.unusedSimpArgs false
/-- Two rows of nodes. -/
abbrev KW := KV × KV
def nodesW : List KW → Nat
  | [] => 0
  | e :: r => cntL e.1.2.2 + nodesW r
def sameW (r : List KW) : Bool := r.all fun e => sameL e.1.2.2 e.2.2.2
structure StW (a b : Nd) (r : List KW) : Prop where
  ok : ∀ e ∈ r, okK e.1 ∧ okK e.2
  len : ∀ e ∈ r, e.1.2.2.length = e.2.2.2.length
  same : sameW r = sameN a b
  small : r.length + nodesW r ≤ 401
theorem StW.no {a b : Nd} {p q : Bool} {y z : Nat} {c d : Nd} {l l' : List Nd} {r : List KW} (h : StW a b (((p, y, c :: l), (q, z, d :: l')) :: r)) (hn : alikeB c.hd c.ks.length d.hd d.ks.length = false) : sameN a b = false := by
  rw [← h.same]
  simp only [sameW, List.all_cons, sameL, sameN_eq c d, hn, Bool.false_and]
theorem StW.push {a b : Nd} {p q p' q' : Bool} {y z y' z' : Nat} {c d : Nd} {l l' : List Nd} {r : List KW} (h : StW a b (((p, y, c :: l), (q, z, d :: l')) :: r)) (hn : alikeB c.hd c.ks.length d.hd d.ks.length = true) (hc : c.ks ≠ [] → y' = 13) (hd : d.ks ≠ [] → z' = 13) :
    StW a b (((p', y', c.ks), (q', z', d.ks)) :: ((p, 13, l), (q, 13, l')) :: r) := by
  refine ⟨fun e he => ?_, fun e he => ?_, ?_, ?_⟩
  · simp only [List.mem_cons] at he
    rcases he with rfl | rfl | he
    · exact ⟨hc, hd⟩
    · exact ⟨fun _ => rfl, fun _ => rfl⟩
    · exact h.ok e (by simp [he])
  · simp only [List.mem_cons] at he
    rcases he with rfl | rfl | he
    · exact alike_len hn
    · have := h.len _ (List.mem_cons_self ..)
      simpa using this
    · exact h.len e (by simp [he])
  · rw [← h.same]
    simp only [sameW, List.all_cons, sameL, sameN_eq c d, hn, Bool.true_and, Bool.and_assoc]
  · have := h.small
    simp only [List.length_cons, nodesW, cntL, cnt_eq c] at this ⊢
    omega
/-- Is one of a node's texts too long for the law? -/
def longB (h : Hd) : Bool := ((((decide ((100 : Int) < (h.nm.size : Int)) || decide ((100 : Int) < (h.op.size : Int))) || decide ((400 : Int) < (h.vs.size : Int))) || decide ((100 : Int) < (h.cs.size : Int))) || decide ((100 : Int) < (h.ts.size : Int)))
def szL (g : Nd → Nat) : Nat → List Nd → Nat
  | s, [] => s
  | s, c :: l => if s < 1000 then szL g (s + g c) l else s
/-- How large a formula is, as the law counts. -/
def szN : Nat → Nd → Nat
  | 0, _ => 1000
  | f + 1, nd => bif longB nd.hd then 1000 else szL (szN f) 1 nd.ks
theorem szL_ge (g : Nd → Nat) (s : Nat) (l : List Nd) : s ≤ szL g s l := by
  induction l generalizing s with
  | nil => exact Nat.le_refl _
  | cons c l ih =>
    simp only [szL]
    split
    · have := ih (s + g c); omega
    · exact Nat.le_refl _
theorem szL_le {g : Nd → Nat} {B : Nat} (hg : ∀ c, g c ≤ B) {s : Nat} {l : List Nd} (hs : s ≤ 999 + B) : szL g s l ≤ 999 + B := by
  induction l generalizing s with
  | nil => exact hs
  | cons c l ih =>
    simp only [szL]
    split
    · have := hg c; exact ih (by omega)
    · exact hs
theorem szN_pos (f : Nat) (nd : Nd) : 1 ≤ szN f nd := by
  cases f with
  | zero => simp [szN]
  | succ f =>
    simp only [szN]
    cases longB nd.hd
    · exact szL_ge _ _ _
    · simp
theorem szN_le (f : Nat) (nd : Nd) : szN f nd ≤ 1000 + 1000 * f := by
  induction f generalizing nd with
  | zero => simp [szN]
  | succ f ih =>
    simp only [szN]
    cases longB nd.hd
    · have := szL_le (g := szN f) (B := 1000 + 1000 * f) ih (s := 1) (l := nd.ks) (by omega)
      simp only [cond_false]; omega
    · simp only [cond_true]; omega
theorem szL_cnt {g : Nd → Nat} {l : List Nd} (h1 : ∀ c ∈ l, g c < 1000 → cnt c = g c) {s : Nat} (h : szL g s l < 1000) : szL g s l = s + cntL l := by
  induction l generalizing s with
  | nil => simp [szL, cntL]
  | cons c l ih =>
    simp only [szL] at h ⊢
    split at h
    · rename_i hs
      rw [if_pos hs]
      have hg := szL_ge g (s + g c) l
      have hc := h1 c (by simp) (by omega)
      rw [ih (fun d hd => h1 d (by simp [hd])) h]
      simp only [cntL]
      omega
    · omega
theorem szN_cnt (f : Nat) (nd : Nd) (h : szN f nd < 1000) : cnt nd = szN f nd := by
  induction f generalizing nd with
  | zero => simp [szN] at h
  | succ f ih =>
    simp only [szN] at h ⊢
    cases hl : longB nd.hd
    · rw [hl] at h
      simp only [cond_false] at h ⊢
      rw [szL_cnt (fun c _ hc => ih c hc) h, cnt_eq]
    · rw [hl] at h
      simp at h
theorem few_cnt {nd : Nd} (h : szN 101 nd ≤ 400) : cnt nd ≤ 400 := by rw [szN_cnt 101 nd (by omega)]; exact h
def GSize (p : Nd × Nat) : Option V := if p.2 ≤ 101 then some (.x (.int .i64 ((szN (101 - p.2) p.1 : Nat) : Int))) else none
theorem GSize_of {nd : Nd} {d : Nat} (h : d ≤ 101) : GSize (nd, d) = some (.x (.int .i64 ((szN (101 - d) nd : Nat) : Int))) := if_pos h
set_option maxHeartbeats 8000000 in
set_option maxRecDepth 100000 in
theorem size_fun : FunV 15 (FE encNI GSize) := by
  refine fun_rec (fun a => 102 - a.2) (fun a w => Try.call15 a w) (fun n ih => ?_)
  refine fun_of_run (E := envOf [(15, (FE encNI fun a => if (fun a => 102 - a.2) a < n then GSize a else none))]) (k := 2) (envOK_of _ ⟨ih, trivial⟩) (by kernel_rfl) Try.func15 rfl (fun a w => Try.call15 a w) Try.ntmps15 (by kernel_rfl) (by decide) (by decide) ?_
  intro us r hF hdat
  obtain ⟨⟨nd, d⟩, hus, hG⟩ := FE_out hF
  clear hF
  subst hus
  obtain ⟨hlt, hF⟩ := ite_some hG
  clear hG
  unfold GSize at hF
  obtain ⟨h101, hF⟩ := ite_some hF
  cases hF
  clear hdat
  simp only [encNI] at hlt h101 ⊢
  obtain ⟨k, op, nm, vk, vn, vs, cs, cc, cr, ts, tc, tr, l, nl, sz, hh, hl, hf, hs⟩ := node_cases nd
  rw [hf]
  refine ⟨rfl, ?_⟩
  by_cases hd : d = 101
  · subst hd
    have e : szN (101 - 101) nd = 1000 := rfl
    rw [e]
    simp (decide := true) (maxDischargeDepth := 200) only [go_sem, show decide ((100 : Int) < ((101 : Nat) : Int)) = true from rfl, show ((1000 : Nat) : Int) = 1000 from rfl, Try.results15]
  · obtain ⟨f, hf'⟩ : ∃ f, 101 - d = f + 1 := ⟨100 - d, by omega⟩
    have hrec : ∀ (i : Nat) (c : Nd), l[i]? = some c → (FE encNI fun a => if 102 - a.2 < n then GSize a else none) [nodeV c, .x (.int .i64 ((d + 1 : Nat) : Int))] = some (.x (.int .i64 ((szN f c : Nat) : Int))) := fun i c hc => by
      have := (FE_at encNI_inj (fun a => if 102 - a.2 < n then GSize a else none) (c, d + 1)).trans ((if_pos (by simp only; omega)).trans (GSize_of (by omega)))
      rw [show 101 - (d + 1) = f from by omega] at this
      exact this
    have d0 : decide ((100 : Int) < ((d : Nat) : Int)) = false := decide_eq_false (by omega)
    have w0 : bWrap .i64 (((d : Nat) : Int) + 1) = ((d + 1 : Nat) : Int) := by rw [bwrap_of (by unfold inR; omega)]; omega
    rw [hf']
    simp only [szN, hh, hl]
    cases hlg : longB (⟨k, op, nm, vk, vn, vs, cs, cc, cr, ts, tc, tr⟩ : Hd)
    · simp only [cond_false]
      simp only [longB, Bool.or_eq_false_iff] at hlg
      obtain ⟨⟨⟨⟨q1, q2⟩, q3⟩, q4⟩, q5⟩ := hlg
      simp (decide := true) (maxDischargeDepth := 200) only [go_sem, d0, q1, q2, q3, q4, q5, Try.results15]
      refine loop_of (X := {y : Nat × Nat // y.1 ≤ l.length ∧ szL (szN f) y.2 (l.drop y.1) = szL (szN f) 1 l ∧ y.1 ≤ y.2 ∧ y.2 ≤ 200000}) (fun y => [(1, .x (.int .i64 ((d : Nat) : Int))), (2, .ptr 2 0), (5, .x (.int .i64 ((y.1.2 : Nat) : Int))), (6, .x (.int .i64 ((y.1.1 : Nat) : Int)))]) (fun _ => [(2, [.x (.int .i64 k), .x (.string op), .x (.string nm), .x (.int .i64 vk), .x (.int .i64 vn), .x (.string vs), .x (.string cs), .x (.int .i64 cc), .x (.int .i64 cr), .x (.string ts), .x (.int .i64 tc), .x (.int .i64 tr), .sl nl sz (l.map nodeV) none])]) (fun y => l.length - y.1.1) ⟨(0, 1), by simp, by simp, by simp, by simp⟩ (by simp (decide := true) only [go_sem] <;> (repeat' first | rfl | constructor)) (by simp (decide := true) only [go_sem] <;> (repeat' first | rfl | constructor)) (fun ⟨(i, s), hi0, hs0, his, hs1⟩ => ?_)
      simp only at hi0 hs0 his hs1
      by_cases hi : i < l.length
      · by_cases hk : s < 1000
        · obtain ⟨c, hc1, hc2⟩ := kid_at hi
          obtain rfl := sz_kids hs hi
          have hcc := hrec i c hc1
          obtain ⟨k3, op3, nm3, vk3, vn3, vs3, cs3, cc3, cr3, ts3, tc3, tr3, l3, nl3, sz3, hh3, hl3, hf3, hs3⟩ := node_cases c
          rw [hf3] at hc2 hcc
          have hle := szN_le f c
          have hge := szN_pos f c
          have c1 : decide ((i : Int) < (l.length : Int)) = true := decide_eq_true (by omega)
          have c1' : decide ((s : Int) < 1000) = true := decide_eq_true (by omega)
          have c2 : (0 : Int) ≤ (i : Int) := by omega
          have c4 := count_up (i := i) (by omega)
          have c5 : bWrap .i64 (((s : Nat) : Int) + ((szN f c : Nat) : Int)) = ((s + szN f c : Nat) : Int) := by rw [bwrap_of (by unfold inR; omega)]; omega
          have hdr : l.drop i = c :: l.drop (i + 1) := by
            have h1 : c = l[i] := by rw [List.getElem?_eq_getElem hi] at hc1; exact (Option.some.inj hc1).symm
            rw [h1]
            exact List.drop_eq_getElem_cons hi
          have e : szL (szN f) (s + szN f c) (l.drop (i + 1)) = szL (szN f) 1 l := by rw [← hs0, hdr]; simp only [szL, if_pos hk]
          simp (decide := true) (maxDischargeDepth := 200) only [go_sem, List.length_map, c1, c1', c2, c4, c5, hc2, hcc, w0, Try.results15]
          refine ⟨⟨(i + 1, s + szN f c), by omega, e, by simp only; omega, by simp only; omega⟩, ?_, ?_, ?_⟩
          · simp (decide := true) only [go_sem]
          · simp (decide := true) only [go_sem]
          · simp only; omega
        · have c1 : decide ((i : Int) < (l.length : Int)) = true := decide_eq_true (by omega)
          have c1' : decide ((s : Int) < 1000) = false := decide_eq_false (by omega)
          have e : szL (szN f) 1 l = s := by
            rw [← hs0]
            cases l.drop i with
            | nil => rfl
            | cons c r => simp only [szL, if_neg hk]
          simp (decide := true) (maxDischargeDepth := 200) only [go_sem, List.length_map, c1, c1', e, Try.results15]
      · have c1 : decide ((i : Int) < (l.length : Int)) = false := decide_eq_false (by omega)
        have e : szL (szN f) 1 l = s := by rw [← hs0, List.drop_of_length_le (by omega)]; rfl
        simp (decide := true) (maxDischargeDepth := 200) only [go_sem, List.length_map, c1, e, Try.results15]
    · simp only [cond_true]
      simp only [longB] at hlg
      simp (decide := true) (maxDischargeDepth := 200) only [go_sem, d0, show ((1000 : Nat) : Int) = 1000 from rfl, Try.results15]
      repeat' first
        | simp (decide := true) (maxDischargeDepth := 200) only [go_sem, d0, show ((1000 : Nat) : Int) = 1000 from rfl, Try.results15, *]
        | refine guardK_openF (fun _ => ?_) (fun _ => ?_)
        | refine guardK_openN (fun _ => ?_) (fun _ => ?_)
        | refine guardK_openT (fun _ => ?_) (fun _ => ?_)
        | refine guardK_open (fun _ => ?_) (fun _ => ?_)
        | refine condK_openN (fun _ => ?_) (fun _ => ?_)
        | refine condK_open (fun _ => ?_) (fun _ => ?_)
      all_goals (exfalso; simp only [*, Bool.or_self, Bool.or_false, Bool.false_eq_true] at hlg)

noncomputable def FFew : List V → Option V := FE encN fun nd => some (.x (.bool (decide (((szN 101 nd : Nat) : Int) ≤ 400))))
theorem FFew_eq (nd : Nd) : FFew [nodeV nd] = some (.x (.bool (decide (((szN 101 nd : Nat) : Int) ≤ 400)))) := FE_at encN_inj _ nd
theorem FSize_eq (nd : Nd) : FE encNI GSize [nodeV nd, .x (.int .i64 0)] = some (.x (.int .i64 ((szN 101 nd : Nat) : Int))) := (FE_at encNI_inj _ (nd, 0)).trans (GSize_of (by omega))
set_option maxRecDepth 100000 in
theorem few_fun : FunV 6 FFew := by
  refine fun_of_run (E := envOf [(15, (FE encNI GSize))]) (k := 1) (envOK_of _ ⟨size_fun, trivial⟩) (by kernel_rfl) Try.func6 rfl (fun a w => Try.call6 a w) Try.ntmps6 (by kernel_rfl) (by decide) (by decide) ?_
  intro us r hF hdat
  obtain ⟨nd, hus, hG⟩ := FE_out hF
  clear hF
  subst hus
  have hF := hG
  clear hG
  cases hF
  have e1 := FSize_eq nd
  simp only [encN]
  obtain ⟨k, op, nm, vk, vn, vs, cs, cc, cr, ts, tc, tr, l, nl, sz, hh, hl, hf, hs⟩ := node_cases nd
  generalize szN 101 nd = rn at *
  rw [hf] at e1 ⊢
  refine ⟨rfl, ?_⟩
  simp (decide := true) (maxDischargeDepth := 200) only [go_sem, e1, Try.results6]

end Go.Proofs.Ytacclfepjpmfoaa
