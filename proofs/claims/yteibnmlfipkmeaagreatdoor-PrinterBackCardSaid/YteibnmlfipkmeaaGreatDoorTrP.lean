/- Formulas as plain data: what a node is, how deep, how many, which two are one. Nothing of the program. -/
import Derived.Test.YteibnmlfipkmeaaGreatDoorMPO
import Derived.Test.YteibnmlfipkmeaaGreatDoorAdR
import Derived.Test.YteibnmlfipkmeaaGreatDoorVR
namespace Go.Proofs.YteibnmlfipkmeaaGreatDoor
open Go Go.RowKit

/-- A node's own fields. -/
structure Hd where
  k : Int
  op : ByteArray
  nm : ByteArray
  vk : Int
  vn : Int
  vs : ByteArray
  cs : ByteArray
  cc : Int
  cr : Int
  ts : ByteArray
  tc : Int
  tr : Int
/-- A node: without kids (the list is nil), or with a list of them. -/
inductive Nd where
  | leaf (h : Hd)
  | mk (h : Hd) (l : List Nd)

namespace Nd
def hd : Nd → Hd
  | .leaf h => h
  | .mk h _ => h
def ks : Nd → List Nd
  | .leaf _ => []
  | .mk _ l => l
end Nd

/-- A node's cells. -/
def cellsH (h : Hd) (K : V) : List V := [.x (.int .i64 h.k), .x (.string h.op), .x (.string h.nm), .x (.int .i64 h.vk), .x (.int .i64 h.vn), .x (.string h.vs), .x (.string h.cs), .x (.int .i64 h.cc), .x (.int .i64 h.cr), .x (.string h.ts), .x (.int .i64 h.tc), .x (.int .i64 h.tr), K]
mutual
def nodeV : Nd → V
  | .leaf h => .agg (cellsH h (.sl true 0 [] none))
  | .mk h l => .agg (cellsH h (.sl false 13 (nodesV l) none))
def nodesV : List Nd → List V
  | [] => []
  | n :: l => nodeV n :: nodesV l
end
theorem nodesV_map : ∀ l, nodesV l = l.map nodeV
  | [] => rfl
  | n :: l => by rw [nodesV, List.map_cons, nodesV_map l]
def kidsV : Nd → V
  | .leaf _ => .sl true 0 [] none
  | .mk _ l => .sl false 13 (l.map nodeV) none
theorem nodeV_eq (n : Nd) : nodeV n = .agg (cellsH n.hd (kidsV n)) := by
  cases n with
  | leaf h => rw [nodeV]; rfl
  | mk h l => rw [nodeV, nodesV_map]; rfl
theorem kids_form (n : Nd) : ∃ nl sz, kidsV n = .sl nl sz (n.ks.map nodeV) none ∧ (n.ks ≠ [] → sz = 13) := by
  cases n with
  | leaf h => exact ⟨true, 0, rfl, fun h => absurd rfl h⟩
  | mk h l => exact ⟨false, 13, rfl, fun _ => rfl⟩
theorem cellsH_inj {h h' : Hd} {K K' : V} (e : cellsH h K = cellsH h' K') : h = h' ∧ K = K' := by
  cases h; cases h'
  simp only [cellsH, List.cons.injEq, V.x.injEq, Value.int.injEq, Value.string.injEq, true_and, and_true] at e
  obtain ⟨rfl, rfl, rfl, rfl, rfl, rfl, rfl, rfl, rfl, rfl, rfl, rfl, rfl⟩ := e
  exact ⟨rfl, rfl⟩
mutual
theorem nodeV_inj : ∀ a b : Nd, nodeV a = nodeV b → a = b
  | .leaf h, .leaf h', e => by
    rw [nodeV, nodeV] at e
    rw [(cellsH_inj (V.agg.inj e)).1]
  | .mk h l, .mk h' l', e => by
    rw [nodeV, nodeV] at e
    obtain ⟨h1, h2⟩ := cellsH_inj (V.agg.inj e)
    have := (V.sl.inj h2).2.2.1
    rw [h1, nodesV_inj l l' this]
  | .leaf h, .mk h' l', e => by
    rw [nodeV, nodeV] at e
    have := (cellsH_inj (V.agg.inj e)).2
    cases this
  | .mk h l, .leaf h', e => by
    rw [nodeV, nodeV] at e
    have := (cellsH_inj (V.agg.inj e)).2
    cases this
theorem nodesV_inj : ∀ l l' : List Nd, nodesV l = nodesV l' → l = l'
  | [], [], _ => rfl
  | n :: l, n' :: l', e => by
    rw [nodesV, nodesV] at e
    obtain ⟨h1, h2⟩ := List.cons.inj e
    rw [nodeV_inj n n' h1, nodesV_inj l l' h2]
  | [], n' :: l', e => by rw [nodesV, nodesV] at e; cases e
  | n :: l, [], e => by rw [nodesV, nodesV] at e; cases e
end

/- A node's cells, kept shut. -/
theorem cells_len (n : Nd) : (nodeV n).cells.length = 13 := by rw [nodeV_eq]; rfl
theorem cells_take (n : Nd) : (nodeV n).cells.take 13 = (nodeV n).cells := by rw [← cells_len n, List.take_length]
theorem cells_agg (n : Nd) : V.agg (nodeV n).cells = nodeV n := by rw [nodeV_eq]; rfl
theorem cells_all (n : Nd) : (nodeV n).cells.all V.cell = true := by
  rw [nodeV_eq]
  cases n <;> rfl
theorem cells_drop (n : Nd) : (nodeV n).cells.drop 12 = [kidsV n] := by rw [nodeV_eq]; rfl
theorem cells_12 (n : Nd) : (nodeV n).cells[12]? = some (kidsV n) := by rw [nodeV_eq]; rfl
theorem node_dat (n : Nd) : (nodeV n).dat = true := by rw [nodeV_eq]; rfl
theorem node_bare (n : Nd) : (nodeV n).bare = nodeV n := by rw [nodeV_eq]; exact bare_agg _
theorem node_np (n : Nd) : (nodeV n).notPtr = true := by rw [nodeV_eq]; rfl
theorem node_keep (op : Op) (n : Nd) : keepV op (nodeV n) = nodeV n := by rw [nodeV_eq]; exact keepV_agg _ _
theorem node_form (n : Nd) : ∃ nl sz, nodeV n = .agg [.x (.int .i64 n.hd.k), .x (.string n.hd.op), .x (.string n.hd.nm), .x (.int .i64 n.hd.vk), .x (.int .i64 n.hd.vn), .x (.string n.hd.vs), .x (.string n.hd.cs), .x (.int .i64 n.hd.cc), .x (.int .i64 n.hd.cr), .x (.string n.hd.ts), .x (.int .i64 n.hd.tc), .x (.int .i64 n.hd.tr), .sl nl sz (n.ks.map nodeV) none] ∧ (n.ks ≠ [] → sz = 13) := by
  obtain ⟨nl, sz, h1, h2⟩ := kids_form n
  exact ⟨nl, sz, by rw [nodeV_eq, h1]; rfl, h2⟩
theorem kid_at {l : List Nd} {i : Nat} (h : i < l.length) : ∃ n, l[i]? = some n ∧ (l.map nodeV)[((i : Nat) : Int).toNat]? = some (nodeV n) := by
  have h1 : l[i]? = some l[i] := List.getElem?_eq_getElem h
  refine ⟨l[i], h1, ?_⟩
  rw [toNat_cast, List.getElem?_map, h1]
  rfl

mutual
/-- How many nodes. -/
def cnt : Nd → Nat
  | .leaf _ => 1
  | .mk _ l => 1 + cntL l
def cntL : List Nd → Nat
  | [] => 0
  | n :: l => cnt n + cntL l
end
mutual
/-- How deep. -/
def dN : Nd → Nat
  | .leaf _ => 1
  | .mk _ l => 1 + dL l
def dL : List Nd → Nat
  | [] => 0
  | n :: l => max (dN n) (dL l)
end
theorem cnt_eq (n : Nd) : cnt n = 1 + cntL n.ks := by cases n <;> simp [cnt, cntL, Nd.ks]
theorem dN_eq (n : Nd) : dN n = 1 + dL n.ks := by cases n <;> simp [dN, dL, Nd.ks]
theorem cnt_pos (n : Nd) : 1 ≤ cnt n := by rw [cnt_eq]; omega
theorem cntL_mem {n : Nd} {l : List Nd} (h : n ∈ l) : cnt n ≤ cntL l := by
  induction l with
  | nil => cases h
  | cons x l ih =>
    simp only [cntL]
    rcases List.mem_cons.1 h with rfl | h
    · omega
    · have := ih h; omega
theorem cntL_len (l : List Nd) : l.length ≤ cntL l := by
  induction l with
  | nil => simp
  | cons x l ih => simp only [cntL, List.length_cons]; have := cnt_pos x; omega
theorem dL_snoc (l : List Nd) (n : Nd) : dL (l ++ [n]) = max (dL l) (dN n) := by
  induction l with
  | nil => simp [dL]
  | cons x l ih => simp only [List.cons_append, dL, ih]; omega
theorem dN_pos (n : Nd) : 1 ≤ dN n := by rw [dN_eq]; omega
mutual
theorem dN_cnt : ∀ n : Nd, dN n ≤ cnt n
  | .leaf h => by simp [dN, cnt]
  | .mk h l => by simp only [dN, cnt]; have := dL_cnt l; omega
theorem dL_cnt : ∀ l : List Nd, dL l ≤ cntL l
  | [] => by simp [dL]
  | n :: l => by simp only [dL, cntL]; have := dN_cnt n; have := dL_cnt l; omega
end
theorem take_snoc' {α : Type} {l : List α} {i : Nat} {x : α} (h : l[i]? = some x) : l.take (i + 1) = l.take i ++ [x] := by
  rw [List.take_add_one, h]; rfl

/-- All fields are the same, and how many kids. -/
def alikeB (h : Hd) (n : Nat) (h' : Hd) (n' : Nat) : Bool :=
  decide (h.k = h'.k) && (decide (h.op = h'.op) && (decide (h.nm = h'.nm) && ((decide (h.vk = h'.vk) && (decide (h.vn = h'.vn) && decide (h.vs = h'.vs))) &&
    ((decide (h.cs = h'.cs) && (decide (h.cc = h'.cc) && decide (h.cr = h'.cr))) && ((decide (h.ts = h'.ts) && (decide (h.tc = h'.tc) && decide (h.tr = h'.tr))) && decide ((n : Int) = (n' : Int)))))))
mutual
/-- Two nodes are one throughout. -/
def sameN : Nd → Nd → Bool
  | .leaf h, b => alikeB h 0 b.hd b.ks.length
  | .mk h l, b => alikeB h l.length b.hd b.ks.length && sameL l b.ks
def sameL : List Nd → List Nd → Bool
  | [], _ => true
  | _ :: _, [] => false
  | n :: l, n' :: l' => sameN n n' && sameL l l'
end
theorem sameN_eq (a b : Nd) : sameN a b = (alikeB a.hd a.ks.length b.hd b.ks.length && sameL a.ks b.ks) := by
  cases a <;> simp [sameN, sameL, Nd.hd, Nd.ks]
theorem alikeB_refl (h : Hd) (n : Nat) : alikeB h n h n = true := by simp [alikeB]
theorem alike_len {h h' : Hd} {n n' : Nat} (e : alikeB h n h' n' = true) : n = n' := by
  simp only [alikeB, Bool.and_eq_true, decide_eq_true_eq] at e
  omega
mutual
theorem sameN_refl : ∀ a : Nd, sameN a a = true
  | .leaf h => by simp only [sameN, Nd.hd, Nd.ks, List.length_nil, alikeB_refl]
  | .mk h l => by simp only [sameN, Nd.hd, Nd.ks, alikeB_refl, Bool.true_and]; exact sameL_refl l
theorem sameL_refl : ∀ l : List Nd, sameL l l = true
  | [] => by simp [sameL]
  | n :: l => by simp only [sameL, sameN_refl n, sameL_refl l, Bool.and_self]
end
/-- Two rows of one length: place by place. -/
theorem sameL_all {l l' : List Nd} (h : l.length = l'.length) : sameL l l' = true ↔ ∀ (i : Nat) (a b : Nd), l[i]? = some a → l'[i]? = some b → sameN a b = true := by
  induction l generalizing l' with
  | nil => simp [sameL]
  | cons x l ih =>
    cases l' with
    | nil => simp at h
    | cons y l' =>
      simp only [sameL, Bool.and_eq_true, ih (by simpa using h)]
      constructor
      · rintro ⟨h1, h2⟩ i a b ha hb
        cases i with
        | zero => simp at ha hb; subst ha hb; exact h1
        | succ i => exact h2 i a b (by simpa using ha) (by simpa using hb)
      · intro hh
        exact ⟨hh 0 x y rfl rfl, fun i a b ha hb => hh (i + 1) a b (by simpa using ha) (by simpa using hb)⟩

mutual
/-- No number is greater than an int64. -/
def smN : Nd → Prop
  | .leaf h => h.vn ≤ 9223372036854775807
  | .mk h l => h.vn ≤ 9223372036854775807 ∧ smL l
def smL : List Nd → Prop
  | [] => True
  | n :: l => smN n ∧ smL l
end
theorem smN_eq (n : Nd) : smN n ↔ n.hd.vn ≤ 9223372036854775807 ∧ smL n.ks := by cases n <;> simp [smN, smL, Nd.hd, Nd.ks]
theorem smL_mem {n : Nd} {l : List Nd} (h : smL l) (hn : n ∈ l) : smN n := by
  induction l with
  | nil => cases hn
  | cons x l ih =>
    rcases List.mem_cons.1 hn with rfl | hn
    · exact h.1
    · exact ih h.2 hn
theorem smL_of {l : List Nd} (h : ∀ n ∈ l, smN n) : smL l := by
  induction l with
  | nil => trivial
  | cons x l ih => exact ⟨h x (by simp), ih fun n hn => h n (List.mem_cons_of_mem _ hn)⟩

theorem argP_node (b : Nat → Option (List V)) (n : Nd) : argP b (nodeV n) = nodeV n := by rw [nodeV_eq]; exact argP_agg b _
theorem slotsP_node (n : Nd) (l : List V) : slotsP (nodeV n :: l) = slotsP l := by rw [nodeV_eq]; rfl
theorem marksP_node (n : Nd) (l : List V) : marksP (nodeV n :: l) = marksP l := by rw [nodeV_eq]; rfl
theorem datP_node (n : Nd) : (nodeV n).datP = true := by rw [nodeV_eq]; rfl
theorem slotP_node (k : Nat) (n : Nd) : slotP k (nodeV n) = nodeV n := by rw [nodeV_eq]; rfl
theorem resP_node (E : Env) (st : St) (d : Nat) (n : Nd) : resP E st (some d) (nodeV n) = st.put (some d) (nodeV n) := by rw [nodeV_eq]; exact resP_agg st E d _
theorem startBP_node (k : Nat) (n : Nd) (us : List V) : startBP k (nodeV n :: us) = startBP (k + 1) us := startBP_no (by rw [nodeV_eq]; rfl)
theorem outsOf_node (k : Nat) (n : Nd) (us : List V) (b : Nat → Option (List V)) : outsOf k (nodeV n :: us) b = outsOf (k + 1) us b := outsOf_no (by rw [nodeV_eq]; rfl)
attribute [go_sem] outsOf_node startBP_node argP_node slotsP_node marksP_node datP_node slotP_node resP_node
attribute [go_sem] cells_len cells_take cells_agg cells_all cells_drop cells_12 node_dat node_bare node_np node_keep
end Go.Proofs.YteibnmlfipkmeaaGreatDoor
