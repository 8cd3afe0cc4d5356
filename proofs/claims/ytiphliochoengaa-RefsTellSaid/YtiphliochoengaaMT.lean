/- Formulas as plain data: what a node is, how deep, how many, which two are one. Nothing of the program. -/
import Derived.Test.YtiphliochoengaaMPO
import Derived.Test.YtiphliochoengaaMAd
namespace Go.Proofs.Ytiphliochoengaa
open Go Go.RowKit

/-- A node's own fields. -/
structure Hd where
  k : Int
  op : ByteArray
  nm : ByteArray
  vk : Int
  vn : Int
  vs : ByteArray
  cs : ByteArray
  cc : Int
  cr : Int
  ts : ByteArray
  tc : Int
  tr : Int
/-- A node: without kids (the list is nil), or with a list of them. -/
inductive Nd where
  | leaf (h : Hd)
  | mk (h : Hd) (l : List Nd)

namespace Nd
def hd : Nd → Hd
  | .leaf h => h
  | .mk h _ => h
def ks : Nd → List Nd
  | .leaf _ => []
  | .mk _ l => l
end Nd

/-- A node's cells. -/
def cellsH (h : Hd) (K : V) : List V := [.x (.int .i64 h.k), .x (.string h.op), .x (.string h.nm), .x (.int .i64 h.vk), .x (.int .i64 h.vn), .x (.string h.vs), .x (.string h.cs), .x (.int .i64 h.cc), .x (.int .i64 h.cr), .x (.string h.ts), .x (.int .i64 h.tc), .x (.int .i64 h.tr), K]
mutual
def nodeV : Nd → V
  | .leaf h => .agg (cellsH h (.sl true 0 [] none))
  | .mk h l => .agg (cellsH h (.sl false 13 (nodesV l) none))
def nodesV : List Nd → List V
  | [] => []
  | n :: l => nodeV n :: nodesV l
end
theorem nodesV_map : ∀ l, nodesV l = l.map nodeV
  | [] => rfl
  | n :: l => by rw [nodesV, List.map_cons, nodesV_map l]
def kidsV : Nd → V
  | .leaf _ => .sl true 0 [] none
  | .mk _ l => .sl false 13 (l.map nodeV) none
theorem nodeV_eq (n : Nd) : nodeV n = .agg (cellsH n.hd (kidsV n)) := by
  cases n with
  | leaf h => rw [nodeV]; rfl
  | mk h l => rw [nodeV, nodesV_map]; rfl
theorem kids_form (n : Nd) : ∃ nl sz, kidsV n = .sl nl sz (n.ks.map nodeV) none ∧ (n.ks ≠ [] → sz = 13) := by
  cases n with
  | leaf h => exact ⟨true, 0, rfl, fun h => absurd rfl h⟩
  | mk h l => exact ⟨false, 13, rfl, fun _ => rfl⟩
theorem cellsH_inj {h h' : Hd} {K K' : V} (e : cellsH h K = cellsH h' K') : h = h' ∧ K = K' := by
  cases h; cases h'
  simp only [cellsH, List.cons.injEq, V.x.injEq, Value.int.injEq, Value.string.injEq, true_and, and_true] at e
  obtain ⟨rfl, rfl, rfl, rfl, rfl, rfl, rfl, rfl, rfl, rfl, rfl, rfl, rfl⟩ := e
  exact ⟨rfl, rfl⟩
mutual
theorem nodeV_inj : ∀ a b : Nd, nodeV a = nodeV b → a = b
  | .leaf h, .leaf h', e => by
    rw [nodeV, nodeV] at e
    rw [(cellsH_inj (V.agg.inj e)).1]
  | .mk h l, .mk h' l', e => by
    rw [nodeV, nodeV] at e
    obtain ⟨h1, h2⟩ := cellsH_inj (V.agg.inj e)
    have := (V.sl.inj h2).2.2.1
    rw [h1, nodesV_inj l l' this]
  | .leaf h, .mk h' l', e => by
    rw [nodeV, nodeV] at e
    have := (cellsH_inj (V.agg.inj e)).2
    cases this
  | .mk h l, .leaf h', e => by
    rw [nodeV, nodeV] at e
    have := (cellsH_inj (V.agg.inj e)).2
    cases this
theorem nodesV_inj : ∀ l l' : List Nd, nodesV l = nodesV l' → l = l'
  | [], [], _ => rfl
  | n :: l, n' :: l', e => by
    rw [nodesV, nodesV] at e
    obtain ⟨h1, h2⟩ := List.cons.inj e
    rw [nodeV_inj n n' h1, nodesV_inj l l' h2]
  | [], n' :: l', e => by rw [nodesV, nodesV] at e; cases e
  | n :: l, [], e => by rw [nodesV, nodesV] at e; cases e
end

/- A node's cells, kept shut. -/
theorem cells_len (n : Nd) : (nodeV n).cells.length = 13 := by rw [nodeV_eq]; rfl
theorem cells_take (n : Nd) : (nodeV n).cells.take 13 = (nodeV n).cells := by rw [← cells_len n, List.take_length]
theorem cells_agg (n : Nd) : V.agg (nodeV n).cells = nodeV n := by rw [nodeV_eq]; rfl
theorem cells_all (n : Nd) : (nodeV n).cells.all V.cell = true := by
  rw [nodeV_eq]
  cases n <;> rfl
theorem cells_drop (n : Nd) : (nodeV n).cells.drop 12 = [kidsV n] := by rw [nodeV_eq]; rfl
theorem cells_12 (n : Nd) : (nodeV n).cells[12]? = some (kidsV n) := by rw [nodeV_eq]; rfl
theorem node_dat (n : Nd) : (nodeV n).dat = true := by rw [nodeV_eq]; rfl
theorem node_bare (n : Nd) : (nodeV n).bare = nodeV n := by rw [nodeV_eq]; exact bare_agg _
theorem node_np (n : Nd) : (nodeV n).notPtr = true := by rw [nodeV_eq]; rfl
theorem node_keep (op : Op) (n : Nd) : keepV op (nodeV n) = nodeV n := by rw [nodeV_eq]; exact keepV_agg _ _
theorem node_form (n : Nd) : ∃ nl sz, nodeV n = .agg [.x (.int .i64 n.hd.k), .x (.string n.hd.op), .x (.string n.hd.nm), .x (.int .i64 n.hd.vk), .x (.int .i64 n.hd.vn), .x (.string n.hd.vs), .x (.string n.hd.cs), .x (.int .i64 n.hd.cc), .x (.int .i64 n.hd.cr), .x (.string n.hd.ts), .x (.int .i64 n.hd.tc), .x (.int .i64 n.hd.tr), .sl nl sz (n.ks.map nodeV) none] ∧ (n.ks ≠ [] → sz = 13) := by
  obtain ⟨nl, sz, h1, h2⟩ := kids_form n
  exact ⟨nl, sz, by rw [nodeV_eq, h1]; rfl, h2⟩
theorem kid_at {l : List Nd} {i : Nat} (h : i < l.length) : ∃ n, l[i]? = some n ∧ (l.map nodeV)[((i : Nat) : Int).toNat]? = some (nodeV n) := by
  have h1 : l[i]? = some l[i] := List.getElem?_eq_getElem h
  refine ⟨l[i], h1, ?_⟩
  rw [toNat_cast, List.getElem?_map, h1]
  rfl

mutual
/-- How many nodes. -/
def cnt : Nd → Nat
  | .leaf _ => 1
  | .mk _ l => 1 + cntL l
def cntL : List Nd → Nat
  | [] => 0
  | n :: l => cnt n + cntL l
end
mutual
/-- How deep. -/
def dN : Nd → Nat
  | .leaf _ => 1
  | .mk _ l => 1 + dL l
def dL : List Nd → Nat
  | [] => 0
  | n :: l => max (dN n) (dL l)
end
theorem cnt_eq (n : Nd) : cnt n = 1 + cntL n.ks := by cases n <;> simp [cnt, cntL, Nd.ks]
theorem dN_eq (n : Nd) : dN n = 1 + dL n.ks := by cases n <;> simp [dN, dL, Nd.ks]
theorem cnt_pos (n : Nd) : 1 ≤ cnt n := by rw [cnt_eq]; omega
theorem cntL_mem {n : Nd} {l : List Nd} (h : n ∈ l) : cnt n ≤ cntL l := by
  induction l with
  | nil => cases h
  | cons x l ih =>
    simp only [cntL]
    rcases List.mem_cons.1 h with rfl | h
    · omega
    · have := ih h; omega
theorem cntL_len (l : List Nd) : l.length ≤ cntL l := by
  induction l with
  | nil => simp
  | cons x l ih => simp only [cntL, List.length_cons]; have := cnt_pos x; omega
theorem take_snoc' {α : Type} {l : List α} {i : Nat} {x : α} (h : l[i]? = some x) : l.take (i + 1) = l.take i ++ [x] := by
  rw [List.take_add_one, h]; rfl

/-- All fields are the same, and how many kids. -/
def alikeB (h : Hd) (n : Nat) (h' : Hd) (n' : Nat) : Bool :=
  decide (h.k = h'.k) && (decide (h.op = h'.op) && (decide (h.nm = h'.nm) && ((decide (h.vk = h'.vk) && (decide (h.vn = h'.vn) && decide (h.vs = h'.vs))) &&
    ((decide (h.cs = h'.cs) && (decide (h.cc = h'.cc) && decide (h.cr = h'.cr))) && ((decide (h.ts = h'.ts) && (decide (h.tc = h'.tc) && decide (h.tr = h'.tr))) && decide ((n : Int) = (n' : Int)))))))
mutual
/-- Two nodes are one throughout. -/
def sameN : Nd → Nd → Bool
  | .leaf h, b => alikeB h 0 b.hd b.ks.length
  | .mk h l, b => alikeB h l.length b.hd b.ks.length && sameL l b.ks
def sameL : List Nd → List Nd → Bool
  | [], _ => true
  | _ :: _, [] => false
  | n :: l, n' :: l' => sameN n n' && sameL l l'
end
theorem sameN_eq (a b : Nd) : sameN a b = (alikeB a.hd a.ks.length b.hd b.ks.length && sameL a.ks b.ks) := by
  cases a <;> simp [sameN, sameL, Nd.hd, Nd.ks]
theorem alike_len {h h' : Hd} {n n' : Nat} (e : alikeB h n h' n' = true) : n = n' := by
  simp only [alikeB, Bool.and_eq_true, decide_eq_true_eq] at e
  omega
mutual
/-- No number is greater than an int64. -/
def smN : Nd → Prop
  | .leaf h => h.vn ≤ 9223372036854775807
  | .mk h l => h.vn ≤ 9223372036854775807 ∧ smL l
def smL : List Nd → Prop
  | [] => True
  | n :: l => smN n ∧ smL l
end
theorem smN_eq (n : Nd) : smN n ↔ n.hd.vn ≤ 9223372036854775807 ∧ smL n.ks := by cases n <;> simp [smN, smL, Nd.hd, Nd.ks]
theorem smL_of {l : List Nd} (h : ∀ n ∈ l, smN n) : smL l := by
  induction l with
  | nil => trivial
  | cons x l ih => exact ⟨h x (by simp), ih fun n hn => h n (List.mem_cons_of_mem _ hn)⟩

theorem argP_node (b : Nat → Option (List V)) (n : Nd) : argP b (nodeV n) = nodeV n := by rw [nodeV_eq]; exact argP_agg b _
theorem slotsP_node (n : Nd) (l : List V) : slotsP (nodeV n :: l) = slotsP l := by rw [nodeV_eq]; rfl
theorem marksP_node (n : Nd) (l : List V) : marksP (nodeV n :: l) = marksP l := by rw [nodeV_eq]; rfl
theorem datP_node (n : Nd) : (nodeV n).datP = true := by rw [nodeV_eq]; rfl
theorem slotP_node (k : Nat) (n : Nd) : slotP k (nodeV n) = nodeV n := by rw [nodeV_eq]; rfl
theorem resP_node (E : Env) (st : St) (d : Nat) (n : Nd) : resP E st (some d) (nodeV n) = st.put (some d) (nodeV n) := by rw [nodeV_eq]; exact resP_agg st E d _
theorem startBP_node (k : Nat) (n : Nd) (us : List V) : startBP k (nodeV n :: us) = startBP (k + 1) us := startBP_no (by rw [nodeV_eq]; rfl)
theorem outsOf_node (k : Nat) (n : Nd) (us : List V) (b : Nat → Option (List V)) : outsOf k (nodeV n :: us) b = outsOf (k + 1) us b := outsOf_no (by rw [nodeV_eq]; rfl)
theorem outsMp_node (k : Nat) (n : Nd) (us : List V) (t : Nat → V) : outsMp k (nodeV n :: us) t = outsMp (k + 1) us t := outsMp_no (by rw [nodeV_eq]; rfl)
theorem mapsP_node (n : Nd) (l : List V) : mapsP (nodeV n :: l) = mapsP l := by rw [nodeV_eq]; rfl
attribute [go_sem] outsMp_node mapsP_node outsOf_node startBP_node argP_node slotsP_node marksP_node datP_node slotP_node resP_node
attribute [go_sem] cells_len cells_take cells_agg cells_all cells_drop cells_12 node_dat node_bare node_np node_keep
end Go.Proofs.Ytiphliochoengaa

/- Formulas: signs, names of functions, values and ranges that may stand in one: package tree and the reference, as functions of plain data. -/
namespace Go.Proofs.Ytiphliochoengaa
open Go Go.RowKit
set_option linter.unusedSimpArgs false
end Go.Proofs.Ytiphliochoengaa

/- Formulas: one node's own fields: package tree and the reference, as functions of plain data. -/
namespace Go.Proofs.Ytiphliochoengaa
open Go Go.RowKit
set_option linter.unusedSimpArgs false
end Go.Proofs.Ytiphliochoengaa

/- Formulas: those that may be, how deep, how many: package tree, the reference and the law, as functions of plain data. -/
namespace Go.Proofs.Ytiphliochoengaa
open Go Go.RowKit
set_option linter.unusedSimpArgs false
def encN (a : Nd) : List V := [nodeV a]
def encNI (p : Nd × Nat) : List V := [nodeV p.1, .x (.int .i64 (p.2 : Int))]
theorem encN_inj (a b : Nd) (e : encN a = encN b) : a = b := nodeV_inj _ _ (List.cons.inj e).1
theorem encNI_inj (p q : Nd × Nat) (e : encNI p = encNI q) : p = q := by
  obtain ⟨h1, h2⟩ := List.cons.inj e
  have h3 : (p.2 : Int) = (q.2 : Int) := (Value.int.inj (V.x.inj (List.cons.inj h2).1)).2
  exact Prod.ext (nodeV_inj _ _ h1) (by omega)
theorem sz_kids {sz : Nat} {l : List Nd} (hs : l ≠ [] → sz = 13) {i : Nat} (hi : i < l.length) : sz = 13 := hs (by intro e; rw [e] at hi; simp at hi)
theorem cnt_kid {nd c : Nd} {i : Nat} (h : nd.ks[i]? = some c) : cnt c < cnt nd := by
  have := cntL_mem (List.mem_of_getElem? h)
  rw [cnt_eq nd]; omega
theorem cnt_kids (nd : Nd) : nd.ks.length < cnt nd := by
  have := cntL_len nd.ks
  rw [cnt_eq nd]; omega
/-- A node whose fields are told. -/
theorem node_cases (nd : Nd) : ∃ (k : Int) (op : ByteArray) (nm : ByteArray) (vk : Int) (vn : Int) (vs : ByteArray) (cs : ByteArray) (cc : Int) (cr : Int) (ts : ByteArray) (tc : Int) (tr : Int) (l : List Nd) (nl : Bool) (sz : Nat), nd.hd = ⟨k, op, nm, vk, vn, vs, cs, cc, cr, ts, tc, tr⟩ ∧ nd.ks = l ∧ nodeV nd = .agg [.x (.int .i64 k), .x (.string op), .x (.string nm), .x (.int .i64 vk), .x (.int .i64 vn), .x (.string vs), .x (.string cs), .x (.int .i64 cc), .x (.int .i64 cr), .x (.string ts), .x (.int .i64 tc), .x (.int .i64 tr), .sl nl sz (l.map nodeV) none] ∧ (l ≠ [] → sz = 13) := by
  obtain ⟨nl, sz, hf, hs⟩ := node_form nd
  exact ⟨_, _, _, _, _, _, _, _, _, _, _, _, _, nl, sz, rfl, rfl, hf, hs⟩

end Go.Proofs.Ytiphliochoengaa

/- Formulas: how deep, and which two are one: package tree and the reference, as functions of plain data. -/
namespace Go.Proofs.Ytiphliochoengaa
open Go Go.RowKit
set_option linter.unusedSimpArgs false
/-- A row of nodes: nil or not, the cells of each, the nodes. -/
abbrev KV := Bool × Nat × List Nd
def okK (e : KV) : Prop := e.2.2 ≠ [] → e.2.1 = 13
/-- How many nodes are still to be looked at. -/
def nodes : List KV → Nat
  | [] => 0
  | e :: r => cntL e.2.2 + nodes r
/-- How deep it goes from here. -/
def deepR : List KV → Nat
  | [] => 0
  | e :: r => max (match e.2.2 with | [] => 0 | l => r.length + dL l) (deepR r)
theorem deep_push (a a' : Bool) (z z' : Nat) (c : Nd) (l : List Nd) (r : List KV) (dv : Nat) : max (max dv (r.length + 1)) (deepR ((a', z', c.ks) :: (a, z, l) :: r)) = max dv (deepR ((a, z, c :: l) :: r)) := by
  simp only [deepR, dL, dN_eq c, List.length_cons]
  cases hk : c.ks with
  | nil => cases l with
    | nil => simp [dL] <;> omega
    | cons y l => simp [dL] <;> omega
  | cons y k => cases l with
    | nil => simp only [dL]; omega
    | cons z l => simp only [dL]; omega
structure StD (nd : Nd) (dv : Nat) (r : List KV) : Prop where
  ok : ∀ e ∈ r, okK e
  deep : max dv (deepR r) = dN nd
  small : r.length + nodes r ≤ 401
  dv : dv ≤ 401
theorem StD.push {nd : Nd} {dv : Nat} {a a' : Bool} {z z' : Nat} {c : Nd} {l : List Nd} {r : List KV} (h : StD nd dv ((a, z, c :: l) :: r)) (hc : c.ks ≠ [] → z' = 13) : StD nd (max dv (r.length + 1)) ((a', z', c.ks) :: (a, 13, l) :: r) := by
  refine ⟨fun e he => ?_, by rw [deep_push a a' 13 z' c l r dv]; exact h.deep, ?_, ?_⟩
  · simp only [List.mem_cons] at he
    rcases he with rfl | rfl | he
    · exact hc
    · intro _; rfl
    · exact h.ok e (by simp [he])
  · have := h.small
    simp only [List.length_cons, nodes, cntL, cnt_eq c] at this ⊢
    omega
  · have h1 := h.small
    have h2 := h.dv
    simp only [List.length_cons] at h1
    omega
end Go.Proofs.Ytiphliochoengaa

/- Formulas: which two are one, how large one is: package tree and the law, as functions of plain data. -/
namespace Go.Proofs.Ytiphliochoengaa
open Go Go.RowKit
set_option linter.unusedSimpArgs false
/-- Two rows of nodes. -/
abbrev KW := KV × KV
def nodesW : List KW → Nat
  | [] => 0
  | e :: r => cntL e.1.2.2 + nodesW r
def sameW (r : List KW) : Bool := r.all fun e => sameL e.1.2.2 e.2.2.2
structure StW (a b : Nd) (r : List KW) : Prop where
  ok : ∀ e ∈ r, okK e.1 ∧ okK e.2
  len : ∀ e ∈ r, e.1.2.2.length = e.2.2.2.length
  same : sameW r = sameN a b
  small : r.length + nodesW r ≤ 401
theorem StW.no {a b : Nd} {p q : Bool} {y z : Nat} {c d : Nd} {l l' : List Nd} {r : List KW} (h : StW a b (((p, y, c :: l), (q, z, d :: l')) :: r)) (hn : alikeB c.hd c.ks.length d.hd d.ks.length = false) : sameN a b = false := by
  rw [← h.same]
  simp only [sameW, List.all_cons, sameL, sameN_eq c d, hn, Bool.false_and]
theorem StW.push {a b : Nd} {p q p' q' : Bool} {y z y' z' : Nat} {c d : Nd} {l l' : List Nd} {r : List KW} (h : StW a b (((p, y, c :: l), (q, z, d :: l')) :: r)) (hn : alikeB c.hd c.ks.length d.hd d.ks.length = true) (hc : c.ks ≠ [] → y' = 13) (hd : d.ks ≠ [] → z' = 13) :
    StW a b (((p', y', c.ks), (q', z', d.ks)) :: ((p, 13, l), (q, 13, l')) :: r) := by
  refine ⟨fun e he => ?_, fun e he => ?_, ?_, ?_⟩
  · simp only [List.mem_cons] at he
    rcases he with rfl | rfl | he
    · exact ⟨hc, hd⟩
    · exact ⟨fun _ => rfl, fun _ => rfl⟩
    · exact h.ok e (by simp [he])
  · simp only [List.mem_cons] at he
    rcases he with rfl | rfl | he
    · exact alike_len hn
    · have := h.len _ (List.mem_cons_self ..)
      simpa using this
    · exact h.len e (by simp [he])
  · rw [← h.same]
    simp only [sameW, List.all_cons, sameL, sameN_eq c d, hn, Bool.true_and, Bool.and_assoc]
  · have := h.small
    simp only [List.length_cons, nodesW, cntL, cnt_eq c] at this ⊢
    omega
/-- Is one of a node's texts too long for the law? -/
def longB (h : Hd) : Bool := ((((decide ((100 : Int) < (h.nm.size : Int)) || decide ((100 : Int) < (h.op.size : Int))) || decide ((400 : Int) < (h.vs.size : Int))) || decide ((100 : Int) < (h.cs.size : Int))) || decide ((100 : Int) < (h.ts.size : Int)))
def szL (g : Nd → Nat) : Nat → List Nd → Nat
  | s, [] => s
  | s, c :: l => if s < 1000 then szL g (s + g c) l else s
/-- How large a formula is, as the law counts. -/
def szN : Nat → Nd → Nat
  | 0, _ => 1000
  | f + 1, nd => bif longB nd.hd then 1000 else szL (szN f) 1 nd.ks
theorem szL_ge (g : Nd → Nat) (s : Nat) (l : List Nd) : s ≤ szL g s l := by
  induction l generalizing s with
  | nil => exact Nat.le_refl _
  | cons c l ih =>
    simp only [szL]
    split
    · have := ih (s + g c); omega
    · exact Nat.le_refl _
theorem szL_le {g : Nd → Nat} {B : Nat} (hg : ∀ c, g c ≤ B) {s : Nat} {l : List Nd} (hs : s ≤ 999 + B) : szL g s l ≤ 999 + B := by
  induction l generalizing s with
  | nil => exact hs
  | cons c l ih =>
    simp only [szL]
    split
    · have := hg c; exact ih (by omega)
    · exact hs
theorem szN_pos (f : Nat) (nd : Nd) : 1 ≤ szN f nd := by
  cases f with
  | zero => simp [szN]
  | succ f =>
    simp only [szN]
    cases longB nd.hd
    · exact szL_ge _ _ _
    · simp
theorem szN_le (f : Nat) (nd : Nd) : szN f nd ≤ 1000 + 1000 * f := by
  induction f generalizing nd with
  | zero => simp [szN]
  | succ f ih =>
    simp only [szN]
    cases longB nd.hd
    · have := szL_le (g := szN f) (B := 1000 + 1000 * f) ih (s := 1) (l := nd.ks) (by omega)
      simp only [cond_false]; omega
    · simp only [cond_true]; omega
theorem szL_cnt {g : Nd → Nat} {l : List Nd} (h1 : ∀ c ∈ l, g c < 1000 → cnt c = g c) {s : Nat} (h : szL g s l < 1000) : szL g s l = s + cntL l := by
  induction l generalizing s with
  | nil => simp [szL, cntL]
  | cons c l ih =>
    simp only [szL] at h ⊢
    split at h
    · rename_i hs
      rw [if_pos hs]
      have hg := szL_ge g (s + g c) l
      have hc := h1 c (by simp) (by omega)
      rw [ih (fun d hd => h1 d (by simp [hd])) h]
      simp only [cntL]
      omega
    · omega
theorem szN_cnt (f : Nat) (nd : Nd) (h : szN f nd < 1000) : cnt nd = szN f nd := by
  induction f generalizing nd with
  | zero => simp [szN] at h
  | succ f ih =>
    simp only [szN] at h ⊢
    cases hl : longB nd.hd
    · rw [hl] at h
      simp only [cond_false] at h ⊢
      rw [szL_cnt (fun c _ hc => ih c hc) h, cnt_eq]
    · rw [hl] at h
      simp at h
theorem few_cnt {nd : Nd} (h : szN 101 nd ≤ 400) : cnt nd ≤ 400 := by rw [szN_cnt 101 nd (by omega)]; exact h
def GSize (p : Nd × Nat) : Option V := if p.2 ≤ 101 then some (.x (.int .i64 ((szN (101 - p.2) p.1 : Nat) : Int))) else none
theorem GSize_of {nd : Nd} {d : Nat} (h : d ≤ 101) : GSize (nd, d) = some (.x (.int .i64 ((szN (101 - d) nd : Nat) : Int))) := if_pos h
set_option maxHeartbeats 8000000 in
set_option maxRecDepth 100000 in
theorem size_fun : FunV 18 (FE encNI GSize) := by
  refine fun_rec (fun a => 102 - a.2) (fun a w => Try.call18 a w) (fun n ih => ?_)
  refine fun_of_run (E := envOf [(18, (FE encNI fun a => if (fun a => 102 - a.2) a < n then GSize a else none))]) (k := 2) (envOK_of _ ⟨ih, trivial⟩) (by kernel_rfl) Try.func18 rfl (fun a w => Try.call18 a w) Try.ntmps18 (by kernel_rfl) (by decide) (by decide) ?_
  intro us r hF hdat
  obtain ⟨⟨nd, d⟩, hus, hG⟩ := FE_out hF
  clear hF
  subst hus
  obtain ⟨hlt, hF⟩ := ite_some hG
  clear hG
  unfold GSize at hF
  obtain ⟨h101, hF⟩ := ite_some hF
  cases hF
  clear hdat
  simp only [encNI] at hlt h101 ⊢
  obtain ⟨k, op, nm, vk, vn, vs, cs, cc, cr, ts, tc, tr, l, nl, sz, hh, hl, hf, hs⟩ := node_cases nd
  rw [hf]
  refine ⟨rfl, ?_⟩
  by_cases hd : d = 101
  · subst hd
    have e : szN (101 - 101) nd = 1000 := rfl
    rw [e]
    simp (decide := true) (maxDischargeDepth := 200) only [go_sem, show decide ((100 : Int) < ((101 : Nat) : Int)) = true from rfl, show ((1000 : Nat) : Int) = 1000 from rfl, Try.results18]
  · obtain ⟨f, hf'⟩ : ∃ f, 101 - d = f + 1 := ⟨100 - d, by omega⟩
    have hrec : ∀ (i : Nat) (c : Nd), l[i]? = some c → (FE encNI fun a => if 102 - a.2 < n then GSize a else none) [nodeV c, .x (.int .i64 ((d + 1 : Nat) : Int))] = some (.x (.int .i64 ((szN f c : Nat) : Int))) := fun i c hc => by
      have := (FE_at encNI_inj (fun a => if 102 - a.2 < n then GSize a else none) (c, d + 1)).trans ((if_pos (by simp only; omega)).trans (GSize_of (by omega)))
      rw [show 101 - (d + 1) = f from by omega] at this
      exact this
    have d0 : decide ((100 : Int) < ((d : Nat) : Int)) = false := decide_eq_false (by omega)
    have w0 : bWrap .i64 (((d : Nat) : Int) + 1) = ((d + 1 : Nat) : Int) := by rw [bwrap_of (by unfold inR; omega)]; omega
    rw [hf']
    simp only [szN, hh, hl]
    cases hlg : longB (⟨k, op, nm, vk, vn, vs, cs, cc, cr, ts, tc, tr⟩ : Hd)
    · simp only [cond_false]
      simp only [longB, Bool.or_eq_false_iff] at hlg
      obtain ⟨⟨⟨⟨q1, q2⟩, q3⟩, q4⟩, q5⟩ := hlg
      simp (decide := true) (maxDischargeDepth := 200) only [go_sem, d0, q1, q2, q3, q4, q5, Try.results18]
      refine loop_of (X := {y : Nat × Nat // y.1 ≤ l.length ∧ szL (szN f) y.2 (l.drop y.1) = szL (szN f) 1 l ∧ y.1 ≤ y.2 ∧ y.2 ≤ 200000}) (fun y => [(1, .x (.int .i64 ((d : Nat) : Int))), (2, .ptr 2 0), (5, .x (.int .i64 ((y.1.2 : Nat) : Int))), (6, .x (.int .i64 ((y.1.1 : Nat) : Int)))]) (fun _ => [(2, [.x (.int .i64 k), .x (.string op), .x (.string nm), .x (.int .i64 vk), .x (.int .i64 vn), .x (.string vs), .x (.string cs), .x (.int .i64 cc), .x (.int .i64 cr), .x (.string ts), .x (.int .i64 tc), .x (.int .i64 tr), .sl nl sz (l.map nodeV) none])]) (fun y => l.length - y.1.1) ⟨(0, 1), by simp, by simp, by simp, by simp⟩ (by simp (decide := true) only [go_sem] <;> (repeat' first | rfl | constructor)) (by simp (decide := true) only [go_sem] <;> (repeat' first | rfl | constructor)) (fun ⟨(i, s), hi0, hs0, his, hs1⟩ => ?_)
      simp only at hi0 hs0 his hs1
      by_cases hi : i < l.length
      · by_cases hk : s < 1000
        · obtain ⟨c, hc1, hc2⟩ := kid_at hi
          obtain rfl := sz_kids hs hi
          have hcc := hrec i c hc1
          obtain ⟨k3, op3, nm3, vk3, vn3, vs3, cs3, cc3, cr3, ts3, tc3, tr3, l3, nl3, sz3, hh3, hl3, hf3, hs3⟩ := node_cases c
          rw [hf3] at hc2 hcc
          have hle := szN_le f c
          have hge := szN_pos f c
          have c1 : decide ((i : Int) < (l.length : Int)) = true := decide_eq_true (by omega)
          have c1' : decide ((s : Int) < 1000) = true := decide_eq_true (by omega)
          have c2 : (0 : Int) ≤ (i : Int) := by omega
          have c4 := count_up (i := i) (by omega)
          have c5 : bWrap .i64 (((s : Nat) : Int) + ((szN f c : Nat) : Int)) = ((s + szN f c : Nat) : Int) := by rw [bwrap_of (by unfold inR; omega)]; omega
          have hdr : l.drop i = c :: l.drop (i + 1) := by
            have h1 : c = l[i] := by rw [List.getElem?_eq_getElem hi] at hc1; exact (Option.some.inj hc1).symm
            rw [h1]
            exact List.drop_eq_getElem_cons hi
          have e : szL (szN f) (s + szN f c) (l.drop (i + 1)) = szL (szN f) 1 l := by rw [← hs0, hdr]; simp only [szL, if_pos hk]
          simp (decide := true) (maxDischargeDepth := 200) only [go_sem, List.length_map, c1, c1', c2, c4, c5, hc2, hcc, w0, Try.results18]
          refine ⟨⟨(i + 1, s + szN f c), by omega, e, by simp only; omega, by simp only; omega⟩, ?_, ?_, ?_⟩
          · simp (decide := true) only [go_sem]
          · simp (decide := true) only [go_sem]
          · simp only; omega
        · have c1 : decide ((i : Int) < (l.length : Int)) = true := decide_eq_true (by omega)
          have c1' : decide ((s : Int) < 1000) = false := decide_eq_false (by omega)
          have e : szL (szN f) 1 l = s := by
            rw [← hs0]
            cases l.drop i with
            | nil => rfl
            | cons c r => simp only [szL, if_neg hk]
          simp (decide := true) (maxDischargeDepth := 200) only [go_sem, List.length_map, c1, c1', e, Try.results18]
      · have c1 : decide ((i : Int) < (l.length : Int)) = false := decide_eq_false (by omega)
        have e : szL (szN f) 1 l = s := by rw [← hs0, List.drop_of_length_le (by omega)]; rfl
        simp (decide := true) (maxDischargeDepth := 200) only [go_sem, List.length_map, c1, e, Try.results18]
    · simp only [cond_true]
      simp only [longB] at hlg
      simp (decide := true) (maxDischargeDepth := 200) only [go_sem, d0, show ((1000 : Nat) : Int) = 1000 from rfl, Try.results18]
      repeat' first
        | simp (decide := true) (maxDischargeDepth := 200) only [go_sem, d0, show ((1000 : Nat) : Int) = 1000 from rfl, Try.results18, *]
        | refine guardK_openF (fun _ => ?_) (fun _ => ?_)
        | refine guardK_openN (fun _ => ?_) (fun _ => ?_)
        | refine guardK_openT (fun _ => ?_) (fun _ => ?_)
        | refine guardK_open (fun _ => ?_) (fun _ => ?_)
        | refine condK_openN (fun _ => ?_) (fun _ => ?_)
        | refine condK_open (fun _ => ?_) (fun _ => ?_)
      all_goals (exfalso; simp only [*, Bool.or_self, Bool.or_false, Bool.false_eq_true] at hlg)

noncomputable def FFew : List V → Option V := FE encN fun nd => some (.x (.bool (decide (((szN 101 nd : Nat) : Int) ≤ 400))))
theorem FFew_eq (nd : Nd) : FFew [nodeV nd] = some (.x (.bool (decide (((szN 101 nd : Nat) : Int) ≤ 400)))) := FE_at encN_inj _ nd
theorem FSize_eq (nd : Nd) : FE encNI GSize [nodeV nd, .x (.int .i64 0)] = some (.x (.int .i64 ((szN 101 nd : Nat) : Int))) := (FE_at encNI_inj _ (nd, 0)).trans (GSize_of (by omega))
set_option maxRecDepth 100000 in
theorem few_fun : FunV 6 FFew := by
  refine fun_of_run (E := envOf [(18, (FE encNI GSize))]) (k := 1) (envOK_of _ ⟨size_fun, trivial⟩) (by kernel_rfl) Try.func6 rfl (fun a w => Try.call6 a w) Try.ntmps6 (by kernel_rfl) (by decide) (by decide) ?_
  intro us r hF hdat
  obtain ⟨nd, hus, hG⟩ := FE_out hF
  clear hF
  subst hus
  have hF := hG
  clear hG
  cases hF
  have e1 := FSize_eq nd
  simp only [encN]
  obtain ⟨k, op, nm, vk, vn, vs, cs, cc, cr, ts, tc, tr, l, nl, sz, hh, hl, hf, hs⟩ := node_cases nd
  generalize szN 101 nd = rn at *
  rw [hf] at e1 ⊢
  refine ⟨rfl, ?_⟩
  simp (decide := true) (maxDischargeDepth := 200) only [go_sem, e1, Try.results6]

end Go.Proofs.Ytiphliochoengaa
