/- Formulas as plain data: what a node is, how deep, how many, which two are one. Nothing of the program. -/
import Derived.Test.YtfngpfnbhafmlaaGreatDoorMPO
import Derived.Test.YtfngpfnbhafmlaaGreatDoorMAd
namespace Go.Proofs.YtfngpfnbhafmlaaGreatDoor
open Go Go.RowKit
structure Hd where
 k : Int
 op : ByteArray
 nm : ByteArray
 vk : Int
 vn : Int
 vs : ByteArray
 cs : ByteArray
 cc : Int
 cr : Int
 ts : ByteArray
 tc : Int
 tr : Int
inductive Nd where
 | leaf (h : Hd)
 | mk (h : Hd) (l : List Nd)
namespace Nd
def hd : Nd → Hd
 | .leaf h => h
 | .mk h _ => h
def ks : Nd → List Nd
 | .leaf _ => []
 | .mk _ l => l
end Nd
def cellsH (h : Hd) (K : V) : List V := [.x (.int .i64 h.k), .x (.string h.op), .x (.string h.nm), .x (.int .i64 h.vk), .x (.int .i64 h.vn), .x (.string h.vs), .x (.string h.cs), .x (.int .i64 h.cc), .x (.int .i64 h.cr), .x (.string h.ts), .x (.int .i64 h.tc), .x (.int .i64 h.tr), K]
mutual
def nodeV : Nd → V
 | .leaf h => .agg (cellsH h (.sl true 0 [] none))
 | .mk h l => .agg (cellsH h (.sl false 13 (nodesV l) none))
def nodesV : List Nd → List V
 | [] => []
 | n :: l => nodeV n :: nodesV l
end
theorem nodesV_map : ∀ l, nodesV l = l.map nodeV
 | [] => rfl
 | n :: l => by rw [nodesV, List.map_cons, nodesV_map l]
def kidsV : Nd → V
 | .leaf _ => .sl true 0 [] none
 | .mk _ l => .sl false 13 (l.map nodeV) none
theorem nodeV_eq (n : Nd) : nodeV n = .agg (cellsH n.hd (kidsV n)) := by
 cases n with
 | leaf h => rw [nodeV]; rfl
 | mk h l => rw [nodeV, nodesV_map]; rfl
theorem kids_form (n : Nd) : ∃ nl sz, kidsV n = .sl nl sz (n.ks.map nodeV) none ∧ (n.ks ≠ [] → sz = 13) := by
 cases n with
 | leaf h => exact ⟨true, 0, rfl, fun h => absurd rfl h⟩
 | mk h l => exact ⟨false, 13, rfl, fun _ => rfl⟩
theorem cellsH_inj {h h' : Hd} {K K' : V} (e : cellsH h K = cellsH h' K') : h = h' ∧ K = K' := by
 cases h; cases h'
 simp only [cellsH, List.cons.injEq, V.x.injEq, Value.int.injEq, Value.string.injEq, true_and, and_true] at e
 obtain ⟨rfl, rfl, rfl, rfl, rfl, rfl, rfl, rfl, rfl, rfl, rfl, rfl, rfl⟩ := e
 exact ⟨rfl, rfl⟩
mutual
theorem nodeV_inj : ∀ a b : Nd, nodeV a = nodeV b → a = b
 | .leaf h, .leaf h', e => by
   rw [nodeV, nodeV] at e
   rw [(cellsH_inj (V.agg.inj e)).1]
 | .mk h l, .mk h' l', e => by
   rw [nodeV, nodeV] at e
   obtain ⟨h1, h2⟩ := cellsH_inj (V.agg.inj e)
   have := (V.sl.inj h2).2.2.1
   rw [h1, nodesV_inj l l' this]
 | .leaf h, .mk h' l', e => by
   rw [nodeV, nodeV] at e
   have := (cellsH_inj (V.agg.inj e)).2
   cases this
 | .mk h l, .leaf h', e => by
   rw [nodeV, nodeV] at e
   have := (cellsH_inj (V.agg.inj e)).2
   cases this
theorem nodesV_inj : ∀ l l' : List Nd, nodesV l = nodesV l' → l = l'
 | [], [], _ => rfl
 | n :: l, n' :: l', e => by
   rw [nodesV, nodesV] at e
   obtain ⟨h1, h2⟩ := List.cons.inj e
   rw [nodeV_inj n n' h1, nodesV_inj l l' h2]
 | [], n' :: l', e => by rw [nodesV, nodesV] at e; cases e
 | n :: l, [], e => by rw [nodesV, nodesV] at e; cases e
end
theorem cells_len (n : Nd) : (nodeV n).cells.length = 13 := by rw [nodeV_eq]; rfl
theorem cells_take (n : Nd) : (nodeV n).cells.take 13 = (nodeV n).cells := by rw [← cells_len n, List.take_length]
theorem cells_agg (n : Nd) : V.agg (nodeV n).cells = nodeV n := by rw [nodeV_eq]; rfl
theorem cells_all (n : Nd) : (nodeV n).cells.all V.cell = true := by
 rw [nodeV_eq]
 cases n <;> rfl
theorem cells_drop (n : Nd) : (nodeV n).cells.drop 12 = [kidsV n] := by rw [nodeV_eq]; rfl
theorem cells_12 (n : Nd) : (nodeV n).cells[12]? = some (kidsV n) := by rw [nodeV_eq]; rfl
theorem node_dat (n : Nd) : (nodeV n).dat = true := by rw [nodeV_eq]; rfl
theorem node_bare (n : Nd) : (nodeV n).bare = nodeV n := by rw [nodeV_eq]; exact bare_agg _
theorem node_np (n : Nd) : (nodeV n).notPtr = true := by rw [nodeV_eq]; rfl
theorem node_keep (op : Op) (n : Nd) : keepV op (nodeV n) = nodeV n := by rw [nodeV_eq]; exact keepV_agg _ _
theorem node_form (n : Nd) : ∃ nl sz, nodeV n = .agg [.x (.int .i64 n.hd.k), .x (.string n.hd.op), .x (.string n.hd.nm), .x (.int .i64 n.hd.vk), .x (.int .i64 n.hd.vn), .x (.string n.hd.vs), .x (.string n.hd.cs), .x (.int .i64 n.hd.cc), .x (.int .i64 n.hd.cr), .x (.string n.hd.ts), .x (.int .i64 n.hd.tc), .x (.int .i64 n.hd.tr), .sl nl sz (n.ks.map nodeV) none] ∧ (n.ks ≠ [] → sz = 13) := by
 obtain ⟨nl, sz, h1, h2⟩ := kids_form n
 exact ⟨nl, sz, by rw [nodeV_eq, h1]; rfl, h2⟩
theorem kid_at {l : List Nd} {i : Nat} (h : i < l.length) : ∃ n, l[i]? = some n ∧ (l.map nodeV)[((i : Nat) : Int).toNat]? = some (nodeV n) := by
 have h1 : l[i]? = some l[i] := List.getElem?_eq_getElem h
 refine ⟨l[i], h1, ?_⟩
 rw [toNat_cast, List.getElem?_map, h1]
 rfl
mutual
def cnt : Nd → Nat
 | .leaf _ => 1
 | .mk _ l => 1 + cntL l
def cntL : List Nd → Nat
 | [] => 0
 | n :: l => cnt n + cntL l
end
mutual
def dN : Nd → Nat
 | .leaf _ => 1
 | .mk _ l => 1 + dL l
def dL : List Nd → Nat
 | [] => 0
 | n :: l => max (dN n) (dL l)
end
theorem cnt_eq (n : Nd) : cnt n = 1 + cntL n.ks := by cases n <;> simp [cnt, cntL, Nd.ks]
theorem dN_eq (n : Nd) : dN n = 1 + dL n.ks := by cases n <;> simp [dN, dL, Nd.ks]
theorem cnt_pos (n : Nd) : 1 ≤ cnt n := by rw [cnt_eq]; omega
theorem cntL_mem {n : Nd} {l : List Nd} (h : n ∈ l) : cnt n ≤ cntL l := by
 induction l with
 | nil => cases h
 | cons x l ih =>
   simp only [cntL]
   rcases List.mem_cons.1 h with rfl | h
   · omega
   · have := ih h; omega
theorem cntL_len (l : List Nd) : l.length ≤ cntL l := by
 induction l with
 | nil => simp
 | cons x l ih => simp only [cntL, List.length_cons]; have := cnt_pos x; omega
theorem dN_pos (n : Nd) : 1 ≤ dN n := by rw [dN_eq]; omega
theorem take_snoc' {α : Type} {l : List α} {i : Nat} {x : α} (h : l[i]? = some x) : l.take (i + 1) = l.take i ++ [x] := by
 rw [List.take_add_one, h]; rfl
def alikeB (h : Hd) (n : Nat) (h' : Hd) (n' : Nat) : Bool :=
 decide (h.k = h'.k) && (decide (h.op = h'.op) && (decide (h.nm = h'.nm) && ((decide (h.vk = h'.vk) && (decide (h.vn = h'.vn) && decide (h.vs = h'.vs))) &&
  ((decide (h.cs = h'.cs) && (decide (h.cc = h'.cc) && decide (h.cr = h'.cr))) && ((decide (h.ts = h'.ts) && (decide (h.tc = h'.tc) && decide (h.tr = h'.tr))) && decide ((n : Int) = (n' : Int)))))))
mutual
def sameN : Nd → Nd → Bool
 | .leaf h, b => alikeB h 0 b.hd b.ks.length
 | .mk h l, b => alikeB h l.length b.hd b.ks.length && sameL l b.ks
def sameL : List Nd → List Nd → Bool
 | [], _ => true
 | _ :: _, [] => false
 | n :: l, n' :: l' => sameN n n' && sameL l l'
end
theorem sameN_eq (a b : Nd) : sameN a b = (alikeB a.hd a.ks.length b.hd b.ks.length && sameL a.ks b.ks) := by
 cases a <;> simp [sameN, sameL, Nd.hd, Nd.ks]
theorem alike_len {h h' : Hd} {n n' : Nat} (e : alikeB h n h' n' = true) : n = n' := by
 simp only [alikeB, Bool.and_eq_true, decide_eq_true_eq] at e
 omega
mutual
def smN : Nd → Prop
 | .leaf h => h.vn ≤ 9223372036854775807
 | .mk h l => h.vn ≤ 9223372036854775807 ∧ smL l
def smL : List Nd → Prop
 | [] => True
 | n :: l => smN n ∧ smL l
end
theorem smN_eq (n : Nd) : smN n ↔ n.hd.vn ≤ 9223372036854775807 ∧ smL n.ks := by cases n <;> simp [smN, smL, Nd.hd, Nd.ks]
theorem smL_mem {n : Nd} {l : List Nd} (h : smL l) (hn : n ∈ l) : smN n := by
 induction l with
 | nil => cases hn
 | cons x l ih =>
   rcases List.mem_cons.1 hn with rfl | hn
   · exact h.1
   · exact ih h.2 hn
theorem smL_of {l : List Nd} (h : ∀ n ∈ l, smN n) : smL l := by
 induction l with
 | nil => trivial
 | cons x l ih => exact ⟨h x (by simp), ih fun n hn => h n (List.mem_cons_of_mem _ hn)⟩
theorem argP_node (b : Nat → Option (List V)) (n : Nd) : argP b (nodeV n) = nodeV n := by rw [nodeV_eq]; exact argP_agg b _
theorem slotsP_node (n : Nd) (l : List V) : slotsP (nodeV n :: l) = slotsP l := by rw [nodeV_eq]; rfl
theorem marksP_node (n : Nd) (l : List V) : marksP (nodeV n :: l) = marksP l := by rw [nodeV_eq]; rfl
theorem datP_node (n : Nd) : (nodeV n).datP = true := by rw [nodeV_eq]; rfl
theorem slotP_node (k : Nat) (n : Nd) : slotP k (nodeV n) = nodeV n := by rw [nodeV_eq]; rfl
theorem resP_node (E : Env) (st : St) (d : Nat) (n : Nd) : resP E st (some d) (nodeV n) = st.put (some d) (nodeV n) := by rw [nodeV_eq]; exact resP_agg st E d _
theorem startBP_node (k : Nat) (n : Nd) (us : List V) : startBP k (nodeV n :: us) = startBP (k + 1) us := startBP_no (by rw [nodeV_eq]; rfl)
theorem outsOf_node (k : Nat) (n : Nd) (us : List V) (b : Nat → Option (List V)) : outsOf k (nodeV n :: us) b = outsOf (k + 1) us b := outsOf_no (by rw [nodeV_eq]; rfl)
theorem outsMp_node (k : Nat) (n : Nd) (us : List V) (t : Nat → V) : outsMp k (nodeV n :: us) t = outsMp (k + 1) us t := outsMp_no (by rw [nodeV_eq]; rfl)
theorem mapsP_node (n : Nd) (l : List V) : mapsP (nodeV n :: l) = mapsP l := by rw [nodeV_eq]; rfl
attribute [go_sem] outsMp_node mapsP_node outsOf_node startBP_node argP_node slotsP_node marksP_node datP_node slotP_node resP_node
attribute [go_sem] cells_len cells_take cells_agg cells_all cells_drop cells_12 node_dat node_bare node_np node_keep
end Go.Proofs.YtfngpfnbhafmlaaGreatDoor
namespace Go.Proofs.YtfngpfnbhafmlaaGreatDoor
open Go Go.RowKit
set_option linter.unusedSimpArgs false
def opB (s : ByteArray) : Bool := (decide (s = ⟨#[43]⟩) || (decide (s = ⟨#[45]⟩) || (decide (s = ⟨#[42]⟩) || (decide (s = ⟨#[47]⟩) || (decide (s = ⟨#[38]⟩) || (decide (s = ⟨#[61]⟩) || (decide (s = ⟨#[60, 62]⟩) || (decide (s = ⟨#[60]⟩) || (decide (s = ⟨#[62]⟩) || (decide (s = ⟨#[60, 61]⟩) || decide (s = ⟨#[62, 61]⟩)))))))))))
def FOp : List V → Option V
 | [.x (.string s)] => some (.x (.bool (opB s)))
 | _ => none
set_option maxRecDepth 100000 in
theorem ispair_fun : FunV 83 FOp := by
 refine fun_of_run (E := envOf []) (k := 1) (envOK_of _ trivial) (by kernel_rfl) Tryz.func83 rfl (fun a w => Tryz.call83 a w) Tryz.ntmps83 (by kernel_rfl) (by decide) (by decide) ?_
 intro us r hF hdat
 unfold FOp at hF
 split at hF
 case h_2 => cases hF
 rename_i s
 cases hF
 refine ⟨rfl, ?_⟩
 simp +decide (maxDischargeDepth := 200) only [go_sem, Tryz.results83]
 repeat' first
  | simp +decide (maxDischargeDepth := 200) only [go_sem, Tryz.results83, *]
  | refine guardK_openF (fun _ => ?_) (fun _ => ?_)
  | refine guardK_openN (fun _ => ?_) (fun _ => ?_)
  | refine guardK_openT (fun _ => ?_) (fun _ => ?_)
  | refine guardK_open (fun _ => ?_) (fun _ => ?_)
  | refine condK_openN (fun _ => ?_) (fun _ => ?_)
  | refine condK_open (fun _ => ?_) (fun _ => ?_)
 all_goals simp +decide only [opB, go_sem, *]
def callB (s : ByteArray) : Bool := decide (1 ≤ s.size) && decide (s.size ≤ 8) && !decide (s = ⟨#[84, 82, 85, 69]⟩) && !decide (s = ⟨#[70, 65, 76, 83, 69]⟩) && (List.range s.size).all fun j => greatI (byteV s j)
def FCall : List V → Option V
 | [.x (.string s)] => some (.x (.bool (callB s)))
 | _ => none
theorem callB_short {s : ByteArray} (h : s.size < 1) : callB s = false := by simp [callB]; omega
theorem callB_long {s : ByteArray} (h : 8 < s.size) : callB s = false := by simp [callB]; omega
theorem callB_T {s : ByteArray} (h : decide (s = ⟨#[84, 82, 85, 69]⟩) = true) : callB s = false := by simp only [callB, h, Bool.not_true, Bool.and_false, Bool.false_and]
theorem callB_F {s : ByteArray} (h : decide (s = ⟨#[70, 65, 76, 83, 69]⟩) = true) : callB s = false := by simp only [callB, h, Bool.not_true, Bool.and_false, Bool.false_and]
theorem callB_at {s : ByteArray} {j : Nat} (hj : j < s.size) (h : greatI (byteV s j) = false) : callB s = false := by
 cases hn : callB s with
 | false => rfl
 | true =>
   simp only [callB, Bool.and_eq_true] at hn
   have := List.all_eq_true.1 hn.2 j (List.mem_range.2 hj)
   rw [h] at this
   cases this
theorem callB_all {s : ByteArray} (h1 : 1 ≤ s.size) (h8 : s.size ≤ 8) (hT : decide (s = ⟨#[84, 82, 85, 69]⟩) = false) (hF : decide (s = ⟨#[70, 65, 76, 83, 69]⟩) = false) (h : ∀ j : Nat, j < s.size → greatI (byteV s j) = true) : callB s = true := by
 simp only [callB, Bool.and_eq_true, decide_eq_true_eq, hT, hF, Bool.not_false, and_true]
 exact ⟨⟨h1, h8⟩, List.all_eq_true.2 fun j hj => h j (List.mem_range.1 hj)⟩
set_option maxRecDepth 100000 in
theorem iscall_fun : FunV 84 FCall := by
 refine fun_of_run (E := envOf []) (k := 1) (envOK_of _ trivial) (by kernel_rfl) Tryz.func84 rfl (fun a w => Tryz.call84 a w) Tryz.ntmps84 (by kernel_rfl) (by decide) (by decide) ?_
 intro us r hF hdat
 unfold FCall at hF
 split at hF
 case h_2 => cases hF
 rename_i s
 cases hF
 refine ⟨rfl, ?_⟩
 have k1 : decide ((s.size : Int) < 1) = decide (s.size < 1) := decide_eq_decide.2 (by omega)
 have k2 : decide (8 < (s.size : Int)) = decide (8 < s.size) := decide_eq_decide.2 (by omega)
 cases hs : decide (s.size < 1)
 · cases hl : decide (8 < s.size)
   · have hs' := of_decide_eq_false hs
     have hl' := of_decide_eq_false hl
     cases hT : decide (s = ⟨#[84, 82, 85, 69]⟩)
     · cases hF2 : decide (s = ⟨#[70, 65, 76, 83, 69]⟩)
       · simp +decide (maxDischargeDepth := 200) only [go_sem, k1, k2, hs, hl, hT, hF2, Tryz.results84]
         refine loop_of (X := {i : Nat // i ≤ s.size ∧ ∀ j : Nat, j < i → greatI (byteV s j) = true}) (fun i => [(0, .x (.string s)), (19, .x (.int .i64 (s.size : Int))), (20, .x (.int .i64 i.1))]) (fun _ => []) (fun i => s.size - i.1) ⟨0, by omega, fun j h => by omega⟩ (by simp +decide only [go_sem]; rfl) trivial (fun ⟨i, hi0, hok⟩ => ?_)
         by_cases hi : i < s.size
         · have c1 : decide ((i : Int) < (s.size : Int)) = true := decide_eq_true (by omega)
           have c2 : (0 : Int) ≤ (i : Int) := by omega
           have c3 : (i : Int) < (s.size : Int) := by omega
           have c4 := count_up (i := i) (by omega)
           cases hb : greatI (byteV s i)
           · have e := callB_at hi hb
             cases hl : decide (byteV s i < 65)
             · have hg : decide (90 < byteV s i) = true := by
                simp only [greatI, Bool.and_eq_false_iff, decide_eq_false_iff_not, decide_eq_true_eq] at hb hl ⊢
                omega
               simp +decide (maxDischargeDepth := 200) only [go_sem, c1, c2, c3, c4, hl, hg, e, Tryz.results84]
             · simp +decide (maxDischargeDepth := 200) only [go_sem, c1, c2, c3, c4, hl, e, Tryz.results84]
           · have hb' : decide (byteV s i < 65) = false ∧ decide (90 < byteV s i) = false := by
              simp only [greatI, Bool.and_eq_true, decide_eq_true_eq] at hb
              exact ⟨decide_eq_false (by omega), decide_eq_false (by omega)⟩
             have h1 := hb'.1
             have h2 := hb'.2
             simp +decide (maxDischargeDepth := 200) only [go_sem, c1, c2, c3, c4, h1, h2, Tryz.results84]
             refine ⟨⟨i + 1, by omega, fun j hj => ?_⟩, ?_, trivial, ?_⟩
             rotate_left
             · simp +decide only [go_sem]
             · simp only; omega
             by_cases hj' : j = i
             · subst hj'; exact hb
             · exact hok j (by omega)
         · have c1 : decide ((i : Int) < (s.size : Int)) = false := decide_eq_false (by omega)
           have e := callB_all (by omega) (by omega) hT hF2 (fun j hj => hok j (by omega))
           simp +decide (maxDischargeDepth := 200) only [go_sem, c1, e, Tryz.results84]
       · have e := callB_F hF2
         simp +decide (maxDischargeDepth := 200) only [go_sem, k1, k2, hs, hl, hT, hF2, e, Tryz.results84]
     · have e := callB_T hT
       simp +decide (maxDischargeDepth := 200) only [go_sem, k1, k2, hs, hl, hT, e, Tryz.results84]
   · have e := callB_long (of_decide_eq_true hl)
     cases hT : decide (s = ⟨#[84, 82, 85, 69]⟩) <;> cases hF2 : decide (s = ⟨#[70, 65, 76, 83, 69]⟩) <;> simp +decide (maxDischargeDepth := 200) only [go_sem, k1, k2, hs, hl, hT, hF2, e, Tryz.results84]
 · have e := callB_short (of_decide_eq_true hs)
   cases hT : decide (s = ⟨#[84, 82, 85, 69]⟩) <;> cases hF2 : decide (s = ⟨#[70, 65, 76, 83, 69]⟩) <;> simp +decide (maxDischargeDepth := 200) only [go_sem, k1, k2, hs, hT, hF2, e, Tryz.results84]
def writtenV (k n : Int) (s : ByteArray) : Bool := bif decide (k = 1) then rightV k n s && decide (0 ≤ n) else bif decide (k = 2) then rightV k n s else bif decide (k = 3) then rightV k n s else false
def FWritten : List V → Option V
 | [.agg [.x (.int .i64 k), .x (.int .i64 n), .x (.string s)]] => some (.x (.bool (writtenV k n s)))
 | _ => none
set_option maxRecDepth 100000 in
theorem written_fun : FunV 80 FWritten := by
 refine fun_of_run (E := envOf [(43, FRightV)]) (k := 1) (envOK_of _ ⟨vright_fun, trivial⟩) (by kernel_rfl) Tryz.func80 rfl (fun a w => Tryz.call80 a w) Tryz.ntmps80 (by kernel_rfl) (by decide) (by decide) ?_
 intro us r hF hdat
 unfold FWritten at hF
 split at hF
 case h_2 => cases hF
 rename_i k n s
 cases hF
 refine ⟨rfl, ?_⟩
 simp +decide (maxDischargeDepth := 200) only [go_sem, FRightV, Tryz.results80]
 repeat' first
  | simp +decide (maxDischargeDepth := 200) only [go_sem, FRightV, Tryz.results80, *]
  | refine guardK_openF (fun _ => ?_) (fun _ => ?_)
  | refine guardK_openN (fun _ => ?_) (fun _ => ?_)
  | refine guardK_openT (fun _ => ?_) (fun _ => ?_)
  | refine guardK_open (fun _ => ?_) (fun _ => ?_)
  | refine condK_openN (fun _ => ?_) (fun _ => ?_)
  | refine condK_open (fun _ => ?_) (fun _ => ?_)
 all_goals simp +decide only [writtenV, go_sem, *]
def rangeB (s : ByteArray) (c r : Int) (s' : ByteArray) (c' r' : Int) : Bool := okA s c r s' c' r' && decide (areaN c r c' r' ≤ 400)
def FRange : List V → Option V
 | [.agg [.x (.string s), .x (.int .i64 c), .x (.int .i64 r), .x (.string s'), .x (.int .i64 c'), .x (.int .i64 r')]] => some (.x (.bool (rangeB s c r s' c' r')))
 | _ => none
set_option maxRecDepth 100000 in
theorem range_fun : FunV 82 FRange := by
 refine fun_of_run (E := envOf [(123, FArea)]) (k := 1) (envOK_of _ ⟨area_fun, trivial⟩) (by kernel_rfl) Tryz.func82 rfl (fun a w => Tryz.call82 a w) Tryz.ntmps82 (by kernel_rfl) (by decide) (by decide) ?_
 intro us r hF hdat
 unfold FRange at hF
 split at hF
 case h_2 => cases hF
 rename_i s c r s' c' r'
 cases hF
 refine ⟨rfl, ?_⟩
 cases h : okA s c r s' c' r'
 · have ha := areaV_no h
   simp +decide (maxDischargeDepth := 200) only [go_sem, FArea, ha, Tryz.results82]
   repeat' first
    | simp +decide (maxDischargeDepth := 200) only [go_sem, FArea, ha, Tryz.results82, *]
    | refine guardK_openF (fun _ => ?_) (fun _ => ?_)
    | refine guardK_openN (fun _ => ?_) (fun _ => ?_)
    | refine guardK_openT (fun _ => ?_) (fun _ => ?_)
    | refine guardK_open (fun _ => ?_) (fun _ => ?_)
    | refine condK_openN (fun _ => ?_) (fun _ => ?_)
    | refine condK_open (fun _ => ?_) (fun _ => ?_)
   all_goals simp +decide only [rangeB, go_sem, *]
 · have ha := areaV_yes h
   simp +decide (maxDischargeDepth := 200) only [go_sem, FArea, ha, Tryz.results82]
   repeat' first
    | simp +decide (maxDischargeDepth := 200) only [go_sem, FArea, ha, Tryz.results82, *]
    | refine guardK_openF (fun _ => ?_) (fun _ => ?_)
    | refine guardK_openN (fun _ => ?_) (fun _ => ?_)
    | refine guardK_openT (fun _ => ?_) (fun _ => ?_)
    | refine guardK_open (fun _ => ?_) (fun _ => ?_)
    | refine condK_openN (fun _ => ?_) (fun _ => ?_)
    | refine condK_open (fun _ => ?_) (fun _ => ?_)
   all_goals simp +decide only [rangeB, go_sem, *]
end Go.Proofs.YtfngpfnbhafmlaaGreatDoor
namespace Go.Proofs.YtfngpfnbhafmlaaGreatDoor
open Go Go.RowKit
set_option linter.unusedSimpArgs false
abbrev KR := Bool × Nat × List V
def rawV (p : Hd × KR) : V := .agg (cellsH p.1 (.sl p.2.1 p.2.2.1 p.2.2.2 none))
theorem rawV_inj (p q : Hd × KR) (e : rawV p = rawV q) : p = q := by
 obtain ⟨h, a, b, c⟩ := p
 obtain ⟨h', a', b', c'⟩ := q
 obtain ⟨h1, h2⟩ := cellsH_inj (V.agg.inj e)
 have h1 : h = h' := h1
 have h2 : V.sl a b c none = V.sl a' b' c' none := h2
 cases h1
 cases h2
 rfl
def enc1 (p : Hd × KR) : List V := [rawV p]
def enc2 (p : (Hd × KR) × (Hd × KR)) : List V := [rawV p.1, rawV p.2]
theorem enc1_inj (p q : Hd × KR) (e : enc1 p = enc1 q) : p = q := rawV_inj _ _ (List.cons.inj e).1
theorem enc2_inj (p q : (Hd × KR) × (Hd × KR)) (e : enc2 p = enc2 q) : p = q := by
 obtain ⟨h1, h2⟩ := List.cons.inj e
 exact Prod.ext (rawV_inj _ _ h1) (rawV_inj _ _ (List.cons.inj h2).1)
noncomputable def FAlike : List V → Option V := FE enc2 fun p => some (.x (.bool (alikeB p.1.1 p.1.2.2.2.length p.2.1 p.2.2.2.2.length)))
theorem FAlike_eq (k : Int) (op : ByteArray) (nm : ByteArray) (vk : Int) (vn : Int) (vs : ByteArray) (cs : ByteArray) (cc : Int) (cr : Int) (ts : ByteArray) (tc : Int) (tr : Int) (nl : Bool) (sz : Nat) (es : List V) (k' : Int) (op' : ByteArray) (nm' : ByteArray) (vk' : Int) (vn' : Int) (vs' : ByteArray) (cs' : ByteArray) (cc' : Int) (cr' : Int) (ts' : ByteArray) (tc' : Int) (tr' : Int) (nl' : Bool) (sz' : Nat) (es' : List V) :
 FAlike [.agg [.x (.int .i64 k), .x (.string op), .x (.string nm), .x (.int .i64 vk), .x (.int .i64 vn), .x (.string vs), .x (.string cs), .x (.int .i64 cc), .x (.int .i64 cr), .x (.string ts), .x (.int .i64 tc), .x (.int .i64 tr), .sl nl sz es none], .agg [.x (.int .i64 k'), .x (.string op'), .x (.string nm'), .x (.int .i64 vk'), .x (.int .i64 vn'), .x (.string vs'), .x (.string cs'), .x (.int .i64 cc'), .x (.int .i64 cr'), .x (.string ts'), .x (.int .i64 tc'), .x (.int .i64 tr'), .sl nl' sz' es' none]] = some (.x (.bool (alikeB ⟨k, op, nm, vk, vn, vs, cs, cc, cr, ts, tc, tr⟩ es.length ⟨k', op', nm', vk', vn', vs', cs', cc', cr', ts', tc', tr'⟩ es'.length))) :=
 FE_at enc2_inj _ ((⟨k, op, nm, vk, vn, vs, cs, cc, cr, ts, tc, tr⟩, nl, sz, es), (⟨k', op', nm', vk', vn', vs', cs', cc', cr', ts', tc', tr'⟩, nl', sz', es'))
set_option maxHeartbeats 4000000 in
set_option maxRecDepth 100000 in
theorem alike_fun : FunV 85 FAlike := by
 refine fun_of_run (E := envOf []) (k := 2) (envOK_of _ trivial) (by kernel_rfl) Tryz.func85 rfl (fun a w => Tryz.call85 a w) Tryz.ntmps85 (by kernel_rfl) (by decide) (by decide) ?_
 intro us r hF hdat
 obtain ⟨⟨⟨⟨k, op, nm, vk, vn, vs, cs, cc, cr, ts, tc, tr⟩, nl, sz, es⟩, ⟨⟨k', op', nm', vk', vn', vs', cs', cc', cr', ts', tc', tr'⟩, nl', sz', es'⟩⟩, hus, hG⟩ := FE_out hF
 clear hF
 subst hus
 have hF := hG
 clear hG
 cases hF
 refine ⟨rfl, ?_⟩
 simp only [enc2, rawV, cellsH]
 simp +decide (maxDischargeDepth := 200) only [go_sem, Tryz.results85]
 repeat' first
  | simp +decide (maxDischargeDepth := 200) only [go_sem, Tryz.results85, *]
  | refine guardK_openF (fun _ => ?_) (fun _ => ?_)
  | refine guardK_openN (fun _ => ?_) (fun _ => ?_)
  | refine guardK_openT (fun _ => ?_) (fun _ => ?_)
  | refine guardK_open (fun _ => ?_) (fun _ => ?_)
  | refine condK_openN (fun _ => ?_) (fun _ => ?_)
  | refine condK_open (fun _ => ?_) (fun _ => ?_)
 all_goals simp +decide only [alikeB, go_sem, *]
def onlyH (h : Hd) : Hd :=
 bif decide (h.k = 1) then ⟨h.k, ⟨#[]⟩, ⟨#[]⟩, h.vk, h.vn, h.vs, ⟨#[]⟩, 0, 0, ⟨#[]⟩, 0, 0⟩ else bif decide (h.k = 2) then ⟨h.k, ⟨#[]⟩, ⟨#[]⟩, 0, 0, ⟨#[]⟩, h.cs, h.cc, h.cr, ⟨#[]⟩, 0, 0⟩ else
 bif decide (h.k = 3) then ⟨h.k, ⟨#[]⟩, ⟨#[]⟩, 0, 0, ⟨#[]⟩, h.cs, h.cc, h.cr, h.ts, h.tc, h.tr⟩ else bif decide (h.k = 4) then ⟨h.k, h.op, ⟨#[]⟩, 0, 0, ⟨#[]⟩, ⟨#[]⟩, 0, 0, ⟨#[]⟩, 0, 0⟩ else
 bif decide (h.k = 5) then ⟨h.k, h.op, ⟨#[]⟩, 0, 0, ⟨#[]⟩, ⟨#[]⟩, 0, 0, ⟨#[]⟩, 0, 0⟩ else bif decide (h.k = 6) then ⟨h.k, ⟨#[]⟩, h.nm, 0, 0, ⟨#[]⟩, ⟨#[]⟩, 0, 0, ⟨#[]⟩, 0, 0⟩ else ⟨h.k, ⟨#[]⟩, ⟨#[]⟩, 0, 0, ⟨#[]⟩, ⟨#[]⟩, 0, 0, ⟨#[]⟩, 0, 0⟩
def onlyN (h : Hd) (n : Nat) : Nat := bif decide (h.k = 1) then 0 else bif decide (h.k = 2) then 0 else bif decide (h.k = 3) then 0 else bif decide (h.k = 4) then n else bif decide (h.k = 5) then n else bif decide (h.k = 6) then n else 0
def okF (h : Hd) (n : Nat) : Bool :=
 bif decide (h.k = 1) then writtenV h.vk h.vn h.vs else bif decide (h.k = 2) then rightC h.cs h.cc h.cr else
 bif decide (h.k = 3) then rangeB h.cs h.cc h.cr h.ts h.tc h.tr else bif decide (h.k = 4) then decide (h.op = ⟨#[45]⟩) && decide ((n : Int) = 1) else
 bif decide (h.k = 5) then opB h.op && decide ((n : Int) = 2) else bif decide (h.k = 6) then callB h.nm && decide ((n : Int) ≤ 20) else decide (h.k = 7)
def fitsB (h : Hd) (n : Nat) : Bool := okF h n && alikeB h n (onlyH h) (onlyN h n)
noncomputable def FFits : List V → Option V := FE enc1 fun p => some (.x (.bool (fitsB p.1 p.2.2.2.length)))
theorem FFits_eq (k : Int) (op : ByteArray) (nm : ByteArray) (vk : Int) (vn : Int) (vs : ByteArray) (cs : ByteArray) (cc : Int) (cr : Int) (ts : ByteArray) (tc : Int) (tr : Int) (nl : Bool) (sz : Nat) (es : List V) : FFits [.agg [.x (.int .i64 k), .x (.string op), .x (.string nm), .x (.int .i64 vk), .x (.int .i64 vn), .x (.string vs), .x (.string cs), .x (.int .i64 cc), .x (.int .i64 cr), .x (.string ts), .x (.int .i64 tc), .x (.int .i64 tr), .sl nl sz es none]] = some (.x (.bool (fitsB ⟨k, op, nm, vk, vn, vs, cs, cc, cr, ts, tc, tr⟩ es.length))) :=
 FE_at enc1_inj _ (⟨k, op, nm, vk, vn, vs, cs, cc, cr, ts, tc, tr⟩, nl, sz, es)
set_option maxHeartbeats 8000000 in
set_option maxRecDepth 100000 in
theorem fits_fun : FunV 41 FFits := by
 refine fun_of_run (E := envOf [(85, FAlike), (80, FWritten), (81, FRightC), (82, FRange), (83, FOp), (84, FCall)]) (k := 1) (envOK_of _ ⟨alike_fun, written_fun, right_fun, range_fun, ispair_fun, iscall_fun, trivial⟩) (by kernel_rfl) Tryz.func41 rfl (fun a w => Tryz.call41 a w) Tryz.ntmps41 (by kernel_rfl) (by decide) (by decide) ?_
 intro us r hF hdat
 obtain ⟨⟨⟨k, op, nm, vk, vn, vs, cs, cc, cr, ts, tc, tr⟩, nl, sz, es⟩, hus, hG⟩ := FE_out hF
 clear hF
 subst hus
 have hF := hG
 clear hG
 cases hF
 refine ⟨rfl, ?_⟩
 simp only [enc1, rawV, cellsH]
 simp +decide (maxDischargeDepth := 200) only [go_sem, FAlike_eq, FWritten, FRightC, FRange, FOp, FCall, Tryz.results41]
 repeat' first
  | simp +decide (maxDischargeDepth := 200) only [go_sem, FAlike_eq, FWritten, FRightC, FRange, FOp, FCall, Tryz.results41, *]
  | refine guardK_openF (fun _ => ?_) (fun _ => ?_)
  | refine guardK_openN (fun _ => ?_) (fun _ => ?_)
  | refine guardK_openT (fun _ => ?_) (fun _ => ?_)
  | refine guardK_open (fun _ => ?_) (fun _ => ?_)
  | refine condK_openN (fun _ => ?_) (fun _ => ?_)
  | refine condK_open (fun _ => ?_) (fun _ => ?_)
 all_goals simp +decide only [fitsB, okF, onlyH, onlyN, go_sem, *]
def bareB (h : Hd) (n : Nat) : Bool :=
 bif decide (h.k = 1) then decide (h.op = ⟨#[]⟩) && (decide (h.nm = ⟨#[]⟩) && ((decide (h.cs = ⟨#[]⟩) && (decide (h.cc = 0) && decide (h.cr = 0))) && ((decide (h.ts = ⟨#[]⟩) && (decide (h.tc = 0) && decide (h.tr = 0))) && (decide ((n : Int) = 0))))) else
 bif decide (h.k = 2) then decide (h.op = ⟨#[]⟩) && (decide (h.nm = ⟨#[]⟩) && ((decide (h.vk = 0) && (decide (h.vn = 0) && decide (h.vs = ⟨#[]⟩))) && ((decide (h.ts = ⟨#[]⟩) && (decide (h.tc = 0) && decide (h.tr = 0))) && (decide ((n : Int) = 0))))) else
 bif decide (h.k = 3) then decide (h.op = ⟨#[]⟩) && (decide (h.nm = ⟨#[]⟩) && ((decide (h.vk = 0) && (decide (h.vn = 0) && decide (h.vs = ⟨#[]⟩))) && (decide ((n : Int) = 0)))) else
 bif decide (h.k = 4) then decide (h.nm = ⟨#[]⟩) && ((decide (h.vk = 0) && (decide (h.vn = 0) && decide (h.vs = ⟨#[]⟩))) && ((decide (h.cs = ⟨#[]⟩) && (decide (h.cc = 0) && decide (h.cr = 0))) && ((decide (h.ts = ⟨#[]⟩) && (decide (h.tc = 0) && decide (h.tr = 0)))))) else
 bif decide (h.k = 5) then decide (h.nm = ⟨#[]⟩) && ((decide (h.vk = 0) && (decide (h.vn = 0) && decide (h.vs = ⟨#[]⟩))) && ((decide (h.cs = ⟨#[]⟩) && (decide (h.cc = 0) && decide (h.cr = 0))) && ((decide (h.ts = ⟨#[]⟩) && (decide (h.tc = 0) && decide (h.tr = 0)))))) else
 bif decide (h.k = 6) then decide (h.op = ⟨#[]⟩) && ((decide (h.vk = 0) && (decide (h.vn = 0) && decide (h.vs = ⟨#[]⟩))) && ((decide (h.cs = ⟨#[]⟩) && (decide (h.cc = 0) && decide (h.cr = 0))) && ((decide (h.ts = ⟨#[]⟩) && (decide (h.tc = 0) && decide (h.tr = 0)))))) else
 bif decide (h.k = 7) then decide (h.op = ⟨#[]⟩) && (decide (h.nm = ⟨#[]⟩) && ((decide (h.vk = 0) && (decide (h.vn = 0) && decide (h.vs = ⟨#[]⟩))) && ((decide (h.cs = ⟨#[]⟩) && (decide (h.cc = 0) && decide (h.cr = 0))) && ((decide (h.ts = ⟨#[]⟩) && (decide (h.tc = 0) && decide (h.tr = 0))) && (decide ((n : Int) = 0)))))) else false
end Go.Proofs.YtfngpfnbhafmlaaGreatDoor
namespace Go.Proofs.YtfngpfnbhafmlaaGreatDoor
open Go Go.RowKit
set_option linter.unusedSimpArgs false
def encN (a : Nd) : List V := [nodeV a]
def encNI (p : Nd × Nat) : List V := [nodeV p.1, .x (.int .i64 (p.2 : Int))]
theorem encN_inj (a b : Nd) (e : encN a = encN b) : a = b := nodeV_inj _ _ (List.cons.inj e).1
theorem encNI_inj (p q : Nd × Nat) (e : encNI p = encNI q) : p = q := by
 obtain ⟨h1, h2⟩ := List.cons.inj e
 have h3 : (p.2 : Int) = (q.2 : Int) := (Value.int.inj (V.x.inj (List.cons.inj h2).1)).2
 exact Prod.ext (nodeV_inj _ _ h1) (by omega)
theorem sz_kids {sz : Nat} {l : List Nd} (hs : l ≠ [] → sz = 13) {i : Nat} (hi : i < l.length) : sz = 13 := hs (by intro e; rw [e] at hi; simp at hi)
theorem cnt_kid {nd c : Nd} {i : Nat} (h : nd.ks[i]? = some c) : cnt c < cnt nd := by
 have := cntL_mem (List.mem_of_getElem? h)
 rw [cnt_eq nd]; omega
theorem cnt_kids (nd : Nd) : nd.ks.length < cnt nd := by
 have := cntL_len nd.ks
 rw [cnt_eq nd]; omega
theorem node_cases (nd : Nd) : ∃ (k : Int) (op : ByteArray) (nm : ByteArray) (vk : Int) (vn : Int) (vs : ByteArray) (cs : ByteArray) (cc : Int) (cr : Int) (ts : ByteArray) (tc : Int) (tr : Int) (l : List Nd) (nl : Bool) (sz : Nat), nd.hd = ⟨k, op, nm, vk, vn, vs, cs, cc, cr, ts, tc, tr⟩ ∧ nd.ks = l ∧ nodeV nd = .agg [.x (.int .i64 k), .x (.string op), .x (.string nm), .x (.int .i64 vk), .x (.int .i64 vn), .x (.string vs), .x (.string cs), .x (.int .i64 cc), .x (.int .i64 cr), .x (.string ts), .x (.int .i64 tc), .x (.int .i64 tr), .sl nl sz (l.map nodeV) none] ∧ (l ≠ [] → sz = 13) := by
 obtain ⟨nl, sz, hf, hs⟩ := node_form nd
 exact ⟨_, _, _, _, _, _, _, _, _, _, _, _, _, nl, sz, rfl, rfl, hf, hs⟩
def okR (h : Hd) (n : Nat) : Bool :=
 bif decide (h.k = 1) then rightV h.vk h.vn h.vs && ((decide (h.vk = 1) && decide (0 ≤ h.vn) || decide (h.vk = 2)) || decide (h.vk = 3)) else bif decide (h.k = 2) then rightC h.cs h.cc h.cr else
 bif decide (h.k = 3) then rangeB h.cs h.cc h.cr h.ts h.tc h.tr else bif decide (h.k = 4) then decide (h.op = ⟨#[45]⟩) && decide ((n : Int) = 1) else
 bif decide (h.k = 5) then opB h.op && decide ((n : Int) = 2) else bif decide (h.k = 6) then callB h.nm && decide ((n : Int) ≤ 20) else true
mutual
def rN : Nd → Bool
 | .leaf h => bareB h 0 && okR h 0
 | .mk h l => bareB h l.length && (rL l && okR h l.length)
def rL : List Nd → Bool
 | [] => true
 | n :: l => rN n && rL l
end
theorem rN_eq (a : Nd) : rN a = (bareB a.hd a.ks.length && (rL a.ks && okR a.hd a.ks.length)) := by
 cases a <;> simp [rN, rL, Nd.hd, Nd.ks]
def rwN : Nat → Nd → Bool
 | 0, _ => false
 | m + 1, nd => fitsB nd.hd nd.ks.length && nd.ks.all (rwN m)
theorem fits_len {h : Hd} {n : Nat} (e : fitsB h n = true) : n ≤ 20 := by
 simp only [fitsB, Bool.and_eq_true] at e
 have h1 := alike_len e.2
 have h2 := e.1
 unfold okF at h2
 unfold onlyN at h1
 by_cases h4 : h.k = 4
 · simp [h4] at h2; omega
 · by_cases h5 : h.k = 5
   · simp [h5] at h2; omega
   · by_cases h6 : h.k = 6
     · simp [h6] at h2; omega
     · by_cases k1 : h.k = 1 <;> by_cases k2 : h.k = 2 <;> by_cases k3 : h.k = 3 <;> simp [h4, h5, h6, k1, k2, k3] at h1 <;> omega
theorem all_snoc' {α : Type} {p : α → Bool} {l : List α} {i : Nat} {x : α} (h : l[i]? = some x) (h1 : (l.take i).all p = true) (h2 : p x = true) : (l.take (i + 1)).all p = true := by
 rw [take_snoc' h, List.all_append, h1]; simp [h2]
theorem all_bad {α : Type} {p : α → Bool} {l : List α} {i : Nat} {x : α} (h : l[i]? = some x) (h2 : p x = false) : l.all p = false := by
 cases e : l.all p with
 | false => rfl
 | true => rw [List.all_eq_true] at e; rw [e x (List.mem_of_getElem? h)] at h2; cases h2
def GWithin (p : Nd × Nat) : Option V := if p.2 ≤ 20 then some (.x (.bool (rwN p.2 p.1))) else none
theorem GWithin_of {nd : Nd} {m : Nat} (h : m ≤ 20) : GWithin (nd, m) = some (.x (.bool (rwN m nd))) := if_pos h
set_option maxRecDepth 100000 in
theorem within_fun : FunV 25 (FE encNI GWithin) := by
 refine fun_rec (fun a => a.2) (fun a w => Tryz.call25 a w) (fun n ih => ?_)
 refine fun_of_run (E := envOf [(25, (FE encNI fun a => if (fun a => a.2) a < n then GWithin a else none)), (41, FFits)]) (k := 2) (envOK_of _ ⟨ih, fits_fun, trivial⟩) (by kernel_rfl) Tryz.func25 rfl (fun a w => Tryz.call25 a w) Tryz.ntmps25 (by kernel_rfl) (by decide) (by decide) ?_
 intro us r hF hdat
 obtain ⟨⟨nd, m⟩, hus, hG⟩ := FE_out hF
 clear hF
 subst hus
 obtain ⟨hlt, hF⟩ := ite_some hG
 clear hG
 unfold GWithin at hF
 obtain ⟨h20, hF⟩ := ite_some hF
 cases hF
 clear hdat
 simp only [encNI] at hlt h20 ⊢
 obtain ⟨k, op, nm, vk, vn, vs, cs, cc, cr, ts, tc, tr, l, nl, sz, hh, hl, hf, hs⟩ := node_cases nd
 rw [hf]
 refine ⟨rfl, ?_⟩
 cases m with
 | zero =>
   simp only [rwN]
   simp +decide (maxDischargeDepth := 200) only [go_sem, FFits_eq, show ((0 : Nat) : Int) = 0 from rfl, Tryz.results25]
 | succ m =>
   have hrec : ∀ (i : Nat) (c : Nd), l[i]? = some c → (FE encNI fun a => if a.2 < n then GWithin a else none) [nodeV c, .x (.int .i64 ((m : Nat) : Int))] = some (.x (.bool (rwN m c))) := fun i c hc =>
    (FE_at encNI_inj _ (c, m)).trans ((if_pos (by simp only; omega)).trans (GWithin_of (by omega)))
   have d1 : decide (((m + 1 : Nat) : Int) < 1) = false := decide_eq_false (by omega)
   have w1 : bWrap .i64 (((m + 1 : Nat) : Int) - 1) = ((m : Nat) : Int) := by rw [bwrap_of (by unfold inR; omega)]; omega
   simp only [rwN, hh, hl]
   cases hb : fitsB (⟨k, op, nm, vk, vn, vs, cs, cc, cr, ts, tc, tr⟩ : Hd) l.length
   · simp +decide (maxDischargeDepth := 200) only [go_sem, FFits_eq, List.length_map, d1, hb, Tryz.results25]
   · have hlen := fits_len hb
     simp +decide (maxDischargeDepth := 200) only [go_sem, FFits_eq, List.length_map, d1, hb, Tryz.results25]
     refine loop_of (X := {i : Nat // i ≤ l.length ∧ (l.take i).all (rwN m) = true}) (fun i => [(1, .x (.int .i64 ((m + 1 : Nat) : Int))), (15, .sl nl sz (l.map nodeV) none), (16, .x (.int .i64 ((l.length : Nat) : Int))), (17, .x (.int .i64 ((i.1 : Nat) : Int)))]) (fun _ => []) (fun i => l.length - i.1) ⟨0, by omega, by simp⟩ (by simp +decide only [go_sem] <;> (repeat' first | rfl | constructor)) trivial (fun ⟨i, hi0, hok⟩ => ?_)
     by_cases hi : i < l.length
     · obtain ⟨c, hc1, hc2⟩ := kid_at hi
       obtain rfl := sz_kids hs hi
       have hcc := hrec i c hc1
       obtain ⟨k', op', nm', vk', vn', vs', cs', cc', cr', ts', tc', tr', l', nl', sz', hh', hl', hf', hs'⟩ := node_cases c
       rw [hf'] at hc2 hcc
       have c1 : decide ((i : Int) < (l.length : Int)) = true := decide_eq_true (by omega)
       have c2 : (0 : Int) ≤ (i : Int) := by omega
       have c4 := count_up (i := i) (by omega)
       cases hr : rwN m c
       · have e := all_bad (p := rwN m) hc1 hr
         simp +decide (maxDischargeDepth := 200) only [go_sem, FFits_eq, c1, c2, c4, hc2, hcc, hr, w1, e, Tryz.results25]
       · simp +decide (maxDischargeDepth := 200) only [go_sem, FFits_eq, c1, c2, c4, hc2, hcc, hr, w1, Tryz.results25]
         refine ⟨⟨i + 1, by omega, all_snoc' hc1 hok hr⟩, ?_, trivial, ?_⟩
         · simp +decide only [go_sem]
         · simp only; omega
     · have c1 : decide ((i : Int) < (l.length : Int)) = false := decide_eq_false (by omega)
       have hr : l.all (rwN m) = true := by rw [List.take_of_length_le (by omega)] at hok; exact hok
       simp +decide (maxDischargeDepth := 200) only [go_sem, FFits_eq, c1, hr, Tryz.results25]
noncomputable def FRightT : List V → Option V := FE encN fun nd => some (.x (.bool (rwN 20 nd)))
theorem FRightT_eq (nd : Nd) : FRightT [nodeV nd] = some (.x (.bool (rwN 20 nd))) := FE_at encN_inj _ nd
theorem FWithin_eq (nd : Nd) : FE encNI GWithin [nodeV nd, .x (.int .i64 20)] = some (.x (.bool (rwN 20 nd))) := (FE_at encNI_inj _ (nd, 20)).trans (GWithin_of (Nat.le_refl _))
set_option maxRecDepth 100000 in
theorem rightt_fun : FunV 14 FRightT := by
 refine fun_of_run (E := envOf [(25, (FE encNI GWithin))]) (k := 1) (envOK_of _ ⟨within_fun, trivial⟩) (by kernel_rfl) Tryz.func14 rfl (fun a w => Tryz.call14 a w) Tryz.ntmps14 (by kernel_rfl) (by decide) (by decide) ?_
 intro us r hF hdat
 obtain ⟨nd, hus, hG⟩ := FE_out hF
 clear hF
 subst hus
 have hF := hG
 clear hG
 cases hF
 have e1 := FWithin_eq nd
 simp only [encN]
 obtain ⟨k, op, nm, vk, vn, vs, cs, cc, cr, ts, tc, tr, l, nl, sz, hh, hl, hf, hs⟩ := node_cases nd
 generalize rwN 20 nd = rn at *
 rw [hf] at e1 ⊢
 refine ⟨rfl, ?_⟩
 simp +decide (maxDischargeDepth := 200) only [go_sem, e1, Tryz.results14]
end Go.Proofs.YtfngpfnbhafmlaaGreatDoor
namespace Go.Proofs.YtfngpfnbhafmlaaGreatDoor
open Go Go.RowKit
set_option linter.unusedSimpArgs false
abbrev KV := Bool × Nat × List Nd
def okK (e : KV) : Prop := e.2.2 ≠ [] → e.2.1 = 13
def nodes : List KV → Nat
 | [] => 0
 | e :: r => cntL e.2.2 + nodes r
def deepR : List KV → Nat
 | [] => 0
 | e :: r => max (match e.2.2 with | [] => 0 | l => r.length + dL l) (deepR r)
theorem deep_push (a a' : Bool) (z z' : Nat) (c : Nd) (l : List Nd) (r : List KV) (dv : Nat) : max (max dv (r.length + 1)) (deepR ((a', z', c.ks) :: (a, z, l) :: r)) = max dv (deepR ((a, z, c :: l) :: r)) := by
 simp only [deepR, dL, dN_eq c, List.length_cons]
 cases hk : c.ks with
 | nil => cases l with
   | nil => simp [dL] <;> omega
   | cons y l => simp [dL] <;> omega
 | cons y k => cases l with
   | nil => simp only [dL]; omega
   | cons z l => simp only [dL]; omega
structure StD (nd : Nd) (dv : Nat) (r : List KV) : Prop where
 ok : ∀ e ∈ r, okK e
 deep : max dv (deepR r) = dN nd
 small : r.length + nodes r ≤ 401
 dv : dv ≤ 401
theorem StD.push {nd : Nd} {dv : Nat} {a a' : Bool} {z z' : Nat} {c : Nd} {l : List Nd} {r : List KV} (h : StD nd dv ((a, z, c :: l) :: r)) (hc : c.ks ≠ [] → z' = 13) : StD nd (max dv (r.length + 1)) ((a', z', c.ks) :: (a, 13, l) :: r) := by
 refine ⟨fun e he => ?_, by rw [deep_push a a' 13 z' c l r dv]; exact h.deep, ?_, ?_⟩
 · simp only [List.mem_cons] at he
   rcases he with rfl | rfl | he
   · exact hc
   · intro _; rfl
   · exact h.ok e (by simp [he])
 · have := h.small
   simp only [List.length_cons, nodes, cntL, cnt_eq c] at this ⊢
   omega
 · have h1 := h.small
   have h2 := h.dv
   simp only [List.length_cons] at h1
   omega
end Go.Proofs.YtfngpfnbhafmlaaGreatDoor
namespace Go.Proofs.YtfngpfnbhafmlaaGreatDoor
open Go Go.RowKit
set_option linter.unusedSimpArgs false
abbrev KW := KV × KV
def nodesW : List KW → Nat
 | [] => 0
 | e :: r => cntL e.1.2.2 + nodesW r
def sameW (r : List KW) : Bool := r.all fun e => sameL e.1.2.2 e.2.2.2
structure StW (a b : Nd) (r : List KW) : Prop where
 ok : ∀ e ∈ r, okK e.1 ∧ okK e.2
 len : ∀ e ∈ r, e.1.2.2.length = e.2.2.2.length
 same : sameW r = sameN a b
 small : r.length + nodesW r ≤ 401
theorem StW.no {a b : Nd} {p q : Bool} {y z : Nat} {c d : Nd} {l l' : List Nd} {r : List KW} (h : StW a b (((p, y, c :: l), (q, z, d :: l')) :: r)) (hn : alikeB c.hd c.ks.length d.hd d.ks.length = false) : sameN a b = false := by
 rw [← h.same]
 simp only [sameW, List.all_cons, sameL, sameN_eq c d, hn, Bool.false_and]
theorem StW.push {a b : Nd} {p q p' q' : Bool} {y z y' z' : Nat} {c d : Nd} {l l' : List Nd} {r : List KW} (h : StW a b (((p, y, c :: l), (q, z, d :: l')) :: r)) (hn : alikeB c.hd c.ks.length d.hd d.ks.length = true) (hc : c.ks ≠ [] → y' = 13) (hd : d.ks ≠ [] → z' = 13) :
 StW a b (((p', y', c.ks), (q', z', d.ks)) :: ((p, 13, l), (q, 13, l')) :: r) := by
 refine ⟨fun e he => ?_, fun e he => ?_, ?_, ?_⟩
 · simp only [List.mem_cons] at he
   rcases he with rfl | rfl | he
   · exact ⟨hc, hd⟩
   · exact ⟨fun _ => rfl, fun _ => rfl⟩
   · exact h.ok e (by simp [he])
 · simp only [List.mem_cons] at he
   rcases he with rfl | rfl | he
   · exact alike_len hn
   · have := h.len _ (List.mem_cons_self ..)
     simpa using this
   · exact h.len e (by simp [he])
 · rw [← h.same]
   simp only [sameW, List.all_cons, sameL, sameN_eq c d, hn, Bool.true_and, Bool.and_assoc]
 · have := h.small
   simp only [List.length_cons, nodesW, cntL, cnt_eq c] at this ⊢
   omega
def longB (h : Hd) : Bool := ((((decide ((100 : Int) < (h.nm.size : Int)) || decide ((100 : Int) < (h.op.size : Int))) || decide ((400 : Int) < (h.vs.size : Int))) || decide ((100 : Int) < (h.cs.size : Int))) || decide ((100 : Int) < (h.ts.size : Int)))
def szL (g : Nd → Nat) : Nat → List Nd → Nat
 | s, [] => s
 | s, c :: l => if s < 1000 then szL g (s + g c) l else s
def szN : Nat → Nd → Nat
 | 0, _ => 1000
 | f + 1, nd => bif longB nd.hd then 1000 else szL (szN f) 1 nd.ks
theorem szL_ge (g : Nd → Nat) (s : Nat) (l : List Nd) : s ≤ szL g s l := by
 induction l generalizing s with
 | nil => exact Nat.le_refl _
 | cons c l ih =>
   simp only [szL]
   split
   · have := ih (s + g c); omega
   · exact Nat.le_refl _
theorem szL_le {g : Nd → Nat} {B : Nat} (hg : ∀ c, g c ≤ B) {s : Nat} {l : List Nd} (hs : s ≤ 999 + B) : szL g s l ≤ 999 + B := by
 induction l generalizing s with
 | nil => exact hs
 | cons c l ih =>
   simp only [szL]
   split
   · have := hg c; exact ih (by omega)
   · exact hs
theorem szN_pos (f : Nat) (nd : Nd) : 1 ≤ szN f nd := by
 cases f with
 | zero => simp [szN]
 | succ f =>
   simp only [szN]
   cases longB nd.hd
   · exact szL_ge _ _ _
   · simp
theorem szN_le (f : Nat) (nd : Nd) : szN f nd ≤ 1000 + 1000 * f := by
 induction f generalizing nd with
 | zero => simp [szN]
 | succ f ih =>
   simp only [szN]
   cases longB nd.hd
   · have := szL_le (g := szN f) (B := 1000 + 1000 * f) ih (s := 1) (l := nd.ks) (by omega)
     simp only [cond_false]; omega
   · simp only [cond_true]; omega
theorem szL_cnt {g : Nd → Nat} {l : List Nd} (h1 : ∀ c ∈ l, g c < 1000 → cnt c = g c) {s : Nat} (h : szL g s l < 1000) : szL g s l = s + cntL l := by
 induction l generalizing s with
 | nil => simp [szL, cntL]
 | cons c l ih =>
   simp only [szL] at h ⊢
   split at h
   · rename_i hs
     rw [if_pos hs]
     have hg := szL_ge g (s + g c) l
     have hc := h1 c (by simp) (by omega)
     rw [ih (fun d hd => h1 d (by simp [hd])) h]
     simp only [cntL]
     omega
   · omega
theorem szN_cnt (f : Nat) (nd : Nd) (h : szN f nd < 1000) : cnt nd = szN f nd := by
 induction f generalizing nd with
 | zero => simp [szN] at h
 | succ f ih =>
   simp only [szN] at h ⊢
   cases hl : longB nd.hd
   · rw [hl] at h
     simp only [cond_false] at h ⊢
     rw [szL_cnt (fun c _ hc => ih c hc) h, cnt_eq]
   · rw [hl] at h
     simp at h
theorem few_cnt {nd : Nd} (h : szN 101 nd ≤ 400) : cnt nd ≤ 400 := by rw [szN_cnt 101 nd (by omega)]; exact h
def GSize (p : Nd × Nat) : Option V := if p.2 ≤ 101 then some (.x (.int .i64 ((szN (101 - p.2) p.1 : Nat) : Int))) else none
theorem GSize_of {nd : Nd} {d : Nat} (h : d ≤ 101) : GSize (nd, d) = some (.x (.int .i64 ((szN (101 - d) nd : Nat) : Int))) := if_pos h
set_option maxHeartbeats 8000000 in
set_option maxRecDepth 100000 in
theorem size_fun : FunV 13 (FE encNI GSize) := by
 refine fun_rec (fun a => 102 - a.2) (fun a w => Tryz.call13 a w) (fun n ih => ?_)
 refine fun_of_run (E := envOf [(13, (FE encNI fun a => if (fun a => 102 - a.2) a < n then GSize a else none))]) (k := 2) (envOK_of _ ⟨ih, trivial⟩) (by kernel_rfl) Tryz.func13 rfl (fun a w => Tryz.call13 a w) Tryz.ntmps13 (by kernel_rfl) (by decide) (by decide) ?_
 intro us r hF hdat
 obtain ⟨⟨nd, d⟩, hus, hG⟩ := FE_out hF
 clear hF
 subst hus
 obtain ⟨hlt, hF⟩ := ite_some hG
 clear hG
 unfold GSize at hF
 obtain ⟨h101, hF⟩ := ite_some hF
 cases hF
 clear hdat
 simp only [encNI] at hlt h101 ⊢
 obtain ⟨k, op, nm, vk, vn, vs, cs, cc, cr, ts, tc, tr, l, nl, sz, hh, hl, hf, hs⟩ := node_cases nd
 rw [hf]
 refine ⟨rfl, ?_⟩
 by_cases hd : d = 101
 · subst hd
   have e : szN (101 - 101) nd = 1000 := rfl
   rw [e]
   simp +decide (maxDischargeDepth := 200) only [go_sem, show decide ((100 : Int) < ((101 : Nat) : Int)) = true from rfl, show ((1000 : Nat) : Int) = 1000 from rfl, Tryz.results13]
 · obtain ⟨f, hf'⟩ : ∃ f, 101 - d = f + 1 := ⟨100 - d, by omega⟩
   have hrec : ∀ (i : Nat) (c : Nd), l[i]? = some c → (FE encNI fun a => if 102 - a.2 < n then GSize a else none) [nodeV c, .x (.int .i64 ((d + 1 : Nat) : Int))] = some (.x (.int .i64 ((szN f c : Nat) : Int))) := fun i c hc => by
    have := (FE_at encNI_inj (fun a => if 102 - a.2 < n then GSize a else none) (c, d + 1)).trans ((if_pos (by simp only; omega)).trans (GSize_of (by omega)))
    rw [show 101 - (d + 1) = f from by omega] at this
    exact this
   have d0 : decide ((100 : Int) < ((d : Nat) : Int)) = false := decide_eq_false (by omega)
   have w0 : bWrap .i64 (((d : Nat) : Int) + 1) = ((d + 1 : Nat) : Int) := by rw [bwrap_of (by unfold inR; omega)]; omega
   rw [hf']
   simp only [szN, hh, hl]
   cases hlg : longB (⟨k, op, nm, vk, vn, vs, cs, cc, cr, ts, tc, tr⟩ : Hd)
   · simp only [cond_false]
     simp only [longB, Bool.or_eq_false_iff] at hlg
     obtain ⟨⟨⟨⟨q1, q2⟩, q3⟩, q4⟩, q5⟩ := hlg
     simp +decide (maxDischargeDepth := 200) only [go_sem, d0, q1, q2, q3, q4, q5, Tryz.results13]
     refine loop_of (X := {y : Nat × Nat // y.1 ≤ l.length ∧ szL (szN f) y.2 (l.drop y.1) = szL (szN f) 1 l ∧ y.1 ≤ y.2 ∧ y.2 ≤ 200000}) (fun y => [(1, .x (.int .i64 ((d : Nat) : Int))), (2, .ptr 2 0), (5, .x (.int .i64 ((y.1.2 : Nat) : Int))), (6, .x (.int .i64 ((y.1.1 : Nat) : Int)))]) (fun _ => [(2, [.x (.int .i64 k), .x (.string op), .x (.string nm), .x (.int .i64 vk), .x (.int .i64 vn), .x (.string vs), .x (.string cs), .x (.int .i64 cc), .x (.int .i64 cr), .x (.string ts), .x (.int .i64 tc), .x (.int .i64 tr), .sl nl sz (l.map nodeV) none])]) (fun y => l.length - y.1.1) ⟨(0, 1), by simp, by simp, by simp, by simp⟩ (by simp +decide only [go_sem] <;> (repeat' first | rfl | constructor)) (by simp +decide only [go_sem] <;> (repeat' first | rfl | constructor)) (fun ⟨(i, s), hi0, hs0, his, hs1⟩ => ?_)
     simp only at hi0 hs0 his hs1
     by_cases hi : i < l.length
     · by_cases hk : s < 1000
       · obtain ⟨c, hc1, hc2⟩ := kid_at hi
         obtain rfl := sz_kids hs hi
         have hcc := hrec i c hc1
         obtain ⟨k3, op3, nm3, vk3, vn3, vs3, cs3, cc3, cr3, ts3, tc3, tr3, l3, nl3, sz3, hh3, hl3, hf3, hs3⟩ := node_cases c
         rw [hf3] at hc2 hcc
         have hle := szN_le f c
         have hge := szN_pos f c
         have c1 : decide ((i : Int) < (l.length : Int)) = true := decide_eq_true (by omega)
         have c1' : decide ((s : Int) < 1000) = true := decide_eq_true (by omega)
         have c2 : (0 : Int) ≤ (i : Int) := by omega
         have c4 := count_up (i := i) (by omega)
         have c5 : bWrap .i64 (((s : Nat) : Int) + ((szN f c : Nat) : Int)) = ((s + szN f c : Nat) : Int) := by rw [bwrap_of (by unfold inR; omega)]; omega
         have hdr : l.drop i = c :: l.drop (i + 1) := by
          have h1 : c = l[i] := by rw [List.getElem?_eq_getElem hi] at hc1; exact (Option.some.inj hc1).symm
          rw [h1]
          exact List.drop_eq_getElem_cons hi
         have e : szL (szN f) (s + szN f c) (l.drop (i + 1)) = szL (szN f) 1 l := by rw [← hs0, hdr]; simp only [szL, if_pos hk]
         simp +decide (maxDischargeDepth := 200) only [go_sem, List.length_map, c1, c1', c2, c4, c5, hc2, hcc, w0, Tryz.results13]
         refine ⟨⟨(i + 1, s + szN f c), by omega, e, by simp only; omega, by simp only; omega⟩, ?_, ?_, ?_⟩
         · simp +decide only [go_sem]
         · simp +decide only [go_sem]
         · simp only; omega
       · have c1 : decide ((i : Int) < (l.length : Int)) = true := decide_eq_true (by omega)
         have c1' : decide ((s : Int) < 1000) = false := decide_eq_false (by omega)
         have e : szL (szN f) 1 l = s := by
          rw [← hs0]
          cases l.drop i with
          | nil => rfl
          | cons c r => simp only [szL, if_neg hk]
         simp +decide (maxDischargeDepth := 200) only [go_sem, List.length_map, c1, c1', e, Tryz.results13]
     · have c1 : decide ((i : Int) < (l.length : Int)) = false := decide_eq_false (by omega)
       have e : szL (szN f) 1 l = s := by rw [← hs0, List.drop_of_length_le (by omega)]; rfl
       simp +decide (maxDischargeDepth := 200) only [go_sem, List.length_map, c1, e, Tryz.results13]
   · simp only [cond_true]
     simp only [longB] at hlg
     simp +decide (maxDischargeDepth := 200) only [go_sem, d0, show ((1000 : Nat) : Int) = 1000 from rfl, Tryz.results13]
     repeat' first
      | simp +decide (maxDischargeDepth := 200) only [go_sem, d0, show ((1000 : Nat) : Int) = 1000 from rfl, Tryz.results13, *]
      | refine guardK_openF (fun _ => ?_) (fun _ => ?_)
      | refine guardK_openN (fun _ => ?_) (fun _ => ?_)
      | refine guardK_openT (fun _ => ?_) (fun _ => ?_)
      | refine guardK_open (fun _ => ?_) (fun _ => ?_)
      | refine condK_openN (fun _ => ?_) (fun _ => ?_)
      | refine condK_open (fun _ => ?_) (fun _ => ?_)
     all_goals (exfalso; simp only [*, Bool.or_self, Bool.or_false, Bool.false_eq_true] at hlg)
noncomputable def FFew : List V → Option V := FE encN fun nd => some (.x (.bool (decide (((szN 101 nd : Nat) : Int) ≤ 400))))
theorem FFew_eq (nd : Nd) : FFew [nodeV nd] = some (.x (.bool (decide (((szN 101 nd : Nat) : Int) ≤ 400)))) := FE_at encN_inj _ nd
theorem FSize_eq (nd : Nd) : FE encNI GSize [nodeV nd, .x (.int .i64 0)] = some (.x (.int .i64 ((szN 101 nd : Nat) : Int))) := (FE_at encNI_inj _ (nd, 0)).trans (GSize_of (by omega))
set_option maxRecDepth 100000 in
theorem few_fun : FunV 7 FFew := by
 refine fun_of_run (E := envOf [(13, (FE encNI GSize))]) (k := 1) (envOK_of _ ⟨size_fun, trivial⟩) (by kernel_rfl) Tryz.func7 rfl (fun a w => Tryz.call7 a w) Tryz.ntmps7 (by kernel_rfl) (by decide) (by decide) ?_
 intro us r hF hdat
 obtain ⟨nd, hus, hG⟩ := FE_out hF
 clear hF
 subst hus
 have hF := hG
 clear hG
 cases hF
 have e1 := FSize_eq nd
 simp only [encN]
 obtain ⟨k, op, nm, vk, vn, vs, cs, cc, cr, ts, tc, tr, l, nl, sz, hh, hl, hf, hs⟩ := node_cases nd
 generalize szN 101 nd = rn at *
 rw [hf] at e1 ⊢
 refine ⟨rfl, ?_⟩
 simp +decide (maxDischargeDepth := 200) only [go_sem, e1, Tryz.results7]
end Go.Proofs.YtfngpfnbhafmlaaGreatDoor
namespace Go.Proofs.YtfngpfnbhafmlaaGreatDoor
open Go Go.RowKit
set_option linter.unusedSimpArgs false
theorem fits_split (h : Hd) (n : Nat) : fitsB h n = (bareB h n && okR h n) := by
 have e0 : ∀ p : Prop, ∀ [Decidable p], p → decide p = true := fun p _ hp => decide_eq_true hp
 by_cases h1 : h.k = 1
 · simp only [fitsB, okF, onlyH, onlyN, alikeB, bareB, okR, writtenV, h1]
   rw [Bool.eq_iff_iff]
   by_cases v1 : h.vk = 1 <;> by_cases v2 : h.vk = 2 <;> by_cases v3 : h.vk = 3 <;> simp [v1, v2, v3] <;> constructor <;> intro hh <;> simp_all
 · by_cases h2 : h.k = 2
   · simp only [fitsB, okF, onlyH, onlyN, alikeB, bareB, okR, h2]
     rw [Bool.eq_iff_iff]
     simp <;> constructor <;> intro hh <;> simp_all
   · by_cases h3 : h.k = 3
     · simp only [fitsB, okF, onlyH, onlyN, alikeB, bareB, okR, h3]
       rw [Bool.eq_iff_iff]
       simp <;> constructor <;> intro hh <;> simp_all
     · by_cases h4 : h.k = 4
       · simp only [fitsB, okF, onlyH, onlyN, alikeB, bareB, okR, h4]
         rw [Bool.eq_iff_iff]
         simp <;> constructor <;> intro hh <;> simp_all
       · by_cases h5 : h.k = 5
         · simp only [fitsB, okF, onlyH, onlyN, alikeB, bareB, okR, h5]
           rw [Bool.eq_iff_iff]
           simp <;> constructor <;> intro hh <;> simp_all
         · by_cases h6 : h.k = 6
           · simp only [fitsB, okF, onlyH, onlyN, alikeB, bareB, okR, h6]
             rw [Bool.eq_iff_iff]
             simp <;> constructor <;> intro hh <;> simp_all
           · by_cases h7 : h.k = 7
             · simp only [fitsB, okF, onlyH, onlyN, alikeB, bareB, okR, h7]
               rw [Bool.eq_iff_iff]
               simp <;> constructor <;> intro hh <;> simp_all
             · simp [fitsB, okF, bareB, h1, h2, h3, h4, h5, h6, h7]
theorem all_right {m : Nat} (l : List Nd) : (l.all fun c => decide (dN c ≤ m) && rN c) = (decide (dL l ≤ m) && rL l) := by
 induction l with
 | nil => simp [dL, rL]
 | cons c l ih =>
   rw [List.all_cons, ih, Bool.eq_iff_iff]
   simp only [dL, rL, Nat.max_le, Bool.and_eq_true, decide_eq_true_eq]
   constructor
   · rintro ⟨⟨h1, h2⟩, h3, h4⟩; exact ⟨⟨h1, h3⟩, h2, h4⟩
   · rintro ⟨⟨h1, h3⟩, h2, h4⟩; exact ⟨⟨h1, h2⟩, h3, h4⟩
theorem rw_right (m : Nat) (nd : Nd) : rwN m nd = (decide (dN nd ≤ m) && rN nd) := by
 induction m generalizing nd with
 | zero => have := dN_pos nd; simp [rwN]; intro h; omega
 | succ m ih =>
   have e : rwN m = fun c => decide (dN c ≤ m) && rN c := funext ih
   simp only [rwN, fits_split]
   rw [e, all_right, rN_eq nd, dN_eq nd, Bool.eq_iff_iff]
   simp only [Bool.and_eq_true, decide_eq_true_eq]
   constructor
   · rintro ⟨⟨h1, h2⟩, h3, h4⟩; exact ⟨by omega, h1, h4, h2⟩
   · rintro ⟨h1, h2, h3, h4⟩; exact ⟨⟨h2, h4⟩, by omega, h3⟩
end Go.Proofs.YtfngpfnbhafmlaaGreatDoor
