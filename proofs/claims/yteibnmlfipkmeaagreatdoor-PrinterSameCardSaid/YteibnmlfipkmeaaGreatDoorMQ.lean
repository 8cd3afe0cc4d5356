/- How values, cells and ranges are written within formulas: packages value and printer, and the reference, as functions of plain data. -/
import Derived.Test.YteibnmlfipkmeaaGreatDoorMP
import Derived.Test.YteibnmlfipkmeaaGreatDoorMK
import Derived.Test.YteibnmlfipkmeaaGreatDoorAdB
import Derived.Test.YteibnmlfipkmeaaGreatDoorVR
import Derived.Test.YteibnmlfipkmeaaGreatDoorLCut
import Derived.Test.YteibnmlfipkmeaaGreatDoorMT
namespace Go.Proofs.YteibnmlfipkmeaaGreatDoor
open Go Go.RowKit
set_option linter.unusedSimpArgs false
/-- A value that a formula may name, but for texts. -/
def showW (k n : Int) : ByteArray := if k = 1 then B (Lib.decDigits n.toNat) else if n = 1 then (⟨#[84, 82, 85, 69]⟩ : ByteArray) else (⟨#[70, 65, 76, 83, 69]⟩ : ByteArray)
def okW (k n : Int) (s : ByteArray) : Prop := s = ⟨#[]⟩ ∧ (k = 1 ∧ 0 ≤ n ∧ n ≤ 9223372036854775807 ∨ k = 3 ∧ (n = 0 ∨ n = 1))
instance (k n : Int) (s : ByteArray) : Decidable (okW k n s) := by unfold okW; infer_instance
def FVShow : List V → Option V
  | [.agg [.x (.int .i64 k), .x (.int .i64 n), .x (.string s)]] => if okW k n s then some (.x (.string (showW k n))) else none
  | _ => none
theorem FVShow_eq {k n : Int} {s : ByteArray} (h : okW k n s) : FVShow [.agg [.x (.int .i64 k), .x (.int .i64 n), .x (.string s)]] = some (.x (.string (showW k n))) := if_pos h
theorem itoa_pos {n : Int} (h : 0 ≤ n) : (⟨(Lib.itoa n).toArray⟩ : ByteArray) = B (Lib.decDigits n.toNat) := by
  rw [Lib.itoa, if_neg (by omega)]
  rfl
theorem rightV_1 (n : Int) : rightV 1 n ⟨#[]⟩ = true := by
  simp (decide := true) only [rightV, cond_true, cond_false, decide_true, decide_false]
def FSBool : List V → Option V
  | [.x (.int .i64 n)] => some (.x (.string (if n = 0 then (⟨#[70, 65, 76, 83, 69]⟩ : ByteArray) else (⟨#[84, 82, 85, 69]⟩ : ByteArray))))
  | _ => none
set_option maxRecDepth 100000 in
theorem sbool_fun : FunV 85 FSBool := by
  refine fun_of_run (E := envOf []) (k := 1) (envOK_of _ trivial) (by kernel_rfl) Tryz.func85 rfl (fun a w => Tryz.call85 a w) Tryz.ntmps85 (by kernel_rfl) (by decide) (by decide) ?_
  intro us r hF hdat
  unfold FSBool at hF
  split at hF
  case h_2 => cases hF
  rename_i n
  cases hF
  refine ⟨rfl, ?_⟩
  by_cases h : n = 0
  · have d0 := decide_eq_true h
    simp (decide := true) (maxDischargeDepth := 200) only [go_sem, d0, h, Tryz.results85]
  · have d0 := decide_eq_false h
    simp (decide := true) (maxDischargeDepth := 200) only [go_sem, d0, h, Tryz.results85]

set_option maxRecDepth 100000 in
theorem vshow_fun : FunV 61 FVShow := by
  refine fun_of_run (E := envOf [(84, FRightV), (64, FItoa), (85, FSBool), (75, FClone)]) (k := 1) (envOK_of _ ⟨vright_fun, itoa_fun, sbool_fun, clone_fun, trivial⟩) (by kernel_rfl) Tryz.func61 rfl (fun a w => Tryz.call61 a w) Tryz.ntmps61 (by kernel_rfl) (by decide) (by decide) ?_
  intro us r hF hdat
  unfold FVShow at hF
  split at hF
  case h_2 => cases hF
  rename_i k n s
  split at hF
  case isFalse => cases hF
  rename_i h
  cases hF
  obtain ⟨rfl, h⟩ := h
  refine ⟨rfl, ?_⟩
  rcases h with ⟨rfl, h1, h2⟩ | ⟨rfl, rfl | rfl⟩
  · have r1 : inR n := by unfold inR; omega
    have e1 := itoa_pos h1
    have e2 := rightV_1 n
    have e3 : showW 1 n = B (Lib.decDigits n.toNat) := rfl
    simp (decide := true) (maxDischargeDepth := 200) only [go_sem, FSBool, FItoa, FRightV, r1, e1, e2, e3, Tryz.results61]
  · have e2 : rightV 3 0 ⟨#[]⟩ = true := by decide
    have e3 : showW 3 0 = (⟨#[70, 65, 76, 83, 69]⟩ : ByteArray) := rfl
    simp (decide := true) (maxDischargeDepth := 200) only [go_sem, FSBool, FRightV, e2, e3, Tryz.results61]
  · have e2 : rightV 3 1 ⟨#[]⟩ = true := by decide
    have e3 : showW 3 1 = (⟨#[84, 82, 85, 69]⟩ : ByteArray) := rfl
    simp (decide := true) (maxDischargeDepth := 200) only [go_sem, FSBool, FRightV, e2, e3, Tryz.results61]

set_option maxRecDepth 100000 in
theorem rvshow_fun : FunV 38 FVShow := by
  refine fun_of_run (E := envOf [(42, FRightV), (66, FItoa)]) (k := 1) (envOK_of _ ⟨rvright_fun, dec_fun, trivial⟩) (by kernel_rfl) Tryz.func38 rfl (fun a w => Tryz.call38 a w) Tryz.ntmps38 (by kernel_rfl) (by decide) (by decide) ?_
  intro us r hF hdat
  unfold FVShow at hF
  split at hF
  case h_2 => cases hF
  rename_i k n s
  split at hF
  case isFalse => cases hF
  rename_i h
  cases hF
  obtain ⟨rfl, h⟩ := h
  refine ⟨rfl, ?_⟩
  rcases h with ⟨rfl, h1, h2⟩ | ⟨rfl, rfl | rfl⟩
  · have r1 : inR n := by unfold inR; omega
    have e1 := itoa_pos h1
    have e2 := rightV_1 n
    have e3 : showW 1 n = B (Lib.decDigits n.toNat) := rfl
    simp (decide := true) (maxDischargeDepth := 200) only [go_sem, toNat_0, FItoa, FRightV, r1, e1, e2, e3, Tryz.results38]
  · have e2 : rightV 3 0 ⟨#[]⟩ = true := by decide
    have e3 : showW 3 0 = (⟨#[70, 65, 76, 83, 69]⟩ : ByteArray) := rfl
    simp (decide := true) (maxDischargeDepth := 200) only [go_sem, toNat_0, FRightV, e2, e3, Tryz.results38]
  · have e2 : rightV 3 1 ⟨#[]⟩ = true := by decide
    have e3 : showW 3 1 = (⟨#[84, 82, 85, 69]⟩ : ByteArray) := rfl
    simp (decide := true) (maxDischargeDepth := 200) only [go_sem, toNat_0, FRightV, e2, e3, Tryz.results38]

/-- A value that a formula may name, as the formula has it. -/
def showQ (k n : Int) (s : ByteArray) : ByteArray := if k = 2 then B (34 :: (dbl s.data.toList ++ [34])) else showW k n
def FQShow : List V → Option V
  | [.agg [.x (.int .i64 k), .x (.int .i64 n), .x (.string s)]] => if okW k n s ∨ k = 2 ∧ s.size ≤ 1000 then some (.x (.string (showQ k n s))) else none
  | _ => none
theorem FQShow_eq {k n : Int} {s : ByteArray} (h : okW k n s ∨ k = 2 ∧ s.size ≤ 1000) : FQShow [.agg [.x (.int .i64 k), .x (.int .i64 n), .x (.string s)]] = some (.x (.string (showQ k n s))) := if_pos h
theorem FReplA_dbl {l : List UInt8} (h : l.length ≤ 1000) : FReplA [.x (.string (B l)), .x (.string ⟨#[34]⟩), .x (.string ⟨#[34, 34]⟩)] = some (.x (.string (B (dbl l)))) := by
  rw [← replaceAll_dbl]
  exact if_pos (show (B l).size ≤ 1000 ∧ 1 ≤ (⟨#[34]⟩ : ByteArray).size ∧ (⟨#[34, 34]⟩ : ByteArray).size ≤ 1000 from ⟨h, by decide, by decide⟩)
set_option maxRecDepth 100000 in
theorem qshow_fun : FunV 33 FQShow := by
  refine fun_of_run (E := envOf [(60, FReplA), (61, FVShow)]) (k := 1) (envOK_of _ ⟨repla_fun, vshow_fun, trivial⟩) (by kernel_rfl) Tryz.func33 rfl (fun a w => Tryz.call33 a w) Tryz.ntmps33 (by kernel_rfl) (by decide) (by decide) ?_
  intro us r hF hdat
  unfold FQShow at hF
  split at hF
  case h_2 => cases hF
  rename_i k n s
  split at hF
  case isFalse => cases hF
  rename_i h
  cases hF
  refine ⟨rfl, ?_⟩
  by_cases h2 : k = 2
  · subst h2
    have hs : s.size ≤ 1000 := by
      rcases h with ⟨_, ⟨h, _⟩ | ⟨h, _⟩⟩ | ⟨_, h⟩
      · cases h
      · cases h
      · exact h
    obtain ⟨t, rfl⟩ := B_of s
    rw [B_size] at hs
    have hd := dbl_len t
    have e1 := FReplA_dbl hs
    have k1 : catV ⟨#[34]⟩ (B (dbl t)) = some (.str (B (34 :: dbl t))) := (catV_ok (by rw [B_size]; show 1 + _ ≤ _; omega)).trans (congrArg (fun b => some (V.str b)) (B_append [34] (dbl t)))
    have k2 : catV (B (34 :: dbl t)) ⟨#[34]⟩ = some (.str (B (34 :: (dbl t ++ [34])))) := (catV_ok (by rw [B_size]; show _ + 1 ≤ _; simp only [List.length_cons]; omega)).trans (congrArg (fun b => some (V.str b)) (B_append (34 :: dbl t) [34]))
    have e3 : showQ 2 n (B t) = B (34 :: (dbl t ++ [34])) := rfl
    simp (decide := true) (maxDischargeDepth := 200) only [go_sem, e1, k1, k2, e3, Tryz.results33]
  · have hw : okW k n s := h.resolve_right (fun h => h2 h.1)
    have e1 := FVShow_eq hw
    have d0 := decide_eq_false h2
    have e3 : showQ k n s = showW k n := if_neg h2
    simp (decide := true) (maxDischargeDepth := 200) only [go_sem, e1, d0, e3, Tryz.results33]

/-- A range, as it is written. -/
def GRng (nd : Nd) : Option V := if rightC nd.hd.cs nd.hd.cc nd.hd.cr = true ∧ rightC nd.hd.ts nd.hd.tc nd.hd.tr = true then some (.x (.string (B (nd.hd.cs.data.toList ++ 33 :: (plT nd.hd.cc nd.hd.cr ++ 58 :: plT nd.hd.tc nd.hd.tr))))) else none
theorem index_cut {a l : List UInt8} {c : UInt8} (h : ∀ b ∈ a, b ≠ c) : Lib.indexByte (a ++ c :: l) c = a.length := by
  induction a with
  | nil => simp [Lib.indexByte]
  | cons b a ih =>
    have h1 := h b (by simp)
    have ih := ih (fun b hb => h b (List.mem_cons_of_mem _ hb))
    simp only [List.cons_append, Lib.indexByte, ih]
    rw [if_neg (by simpa using h1), if_neg (by simp)]
    simp only [List.length_cons]
    omega
theorem name_no {s : ByteArray} (h : nameB s = true) : ∀ b ∈ s.data.toList, b ≠ 33 := by
  intro b hb e
  obtain ⟨l, rfl⟩ := B_of s
  subst e
  rw [B_bytes] at hb
  obtain ⟨i, hi⟩ := List.getElem?_of_mem hb
  have hlt := lt_of_some hi
  simp only [nameB, Bool.and_eq_true, decide_eq_true_eq, B_size] at h
  obtain ⟨⟨⟨h1, -⟩, hs⟩, hall⟩ := h
  have hbv := byteV_B hi
  cases i with
  | zero =>
    rw [show ((0 : Nat) : Int) = 0 from rfl] at hbv
    rw [hbv] at hs
    revert hs
    decide
  | succ i =>
    have := List.all_eq_true.1 hall (i + 1) (List.mem_range.2 hlt)
    rw [hbv] at this
    revert this
    simp
    decide
theorem FCut_cell {s : ByteArray} {c r : Int} (h : rightC s c r = true) : ∃ u w, FCut1 [.x (.string (showC s c r)), .x (.string ⟨#[33]⟩)] = some (.tup [.x (.string u), .x (.string (B (plT c r))), .x (.bool w)]) := by
  have hn := (rightC_iff.1 h).1
  have hl := name_len hn
  have hp := plT_len h
  have e0 := show_cell h
  have e1 := index_cut (l := plT c r) (name_no hn)
  have hsz : s.data.toList.length = s.size := rfl
  have hlen : (showC s c r).size = s.size + 1 + (plT c r).length := by
    rw [e0, B_size, List.length_append, List.length_cons, hsz]
    omega
  refine ⟨subV (showC s c r) 0 (Lib.indexByte (showC s c r).data.toList 33), true, ?_⟩
  show (if (showC s c r).size ≤ 9223372036854775806 then (if 0 ≤ Lib.indexByte (showC s c r).data.toList 33 then some (V.tup [.x (.string (subV (showC s c r) 0 (Lib.indexByte (showC s c r).data.toList 33))), .x (.string (subV (showC s c r) (Lib.indexByte (showC s c r).data.toList 33 + 1) (showC s c r).size)), .x (.bool true)])
       else some (.tup [.x (.string (showC s c r)), .x (.string ⟨#[]⟩), .x (.bool false)])) else none) = _
  rw [if_pos (by rw [hlen]; omega), if_pos (by rw [e0]; show (0 : Int) ≤ Lib.indexByte (s.data.toList ++ 33 :: plT c r) 33; rw [e1]; omega)]
  congr 6
  rw [hlen, e0]
  show subV (B (s.data.toList ++ 33 :: plT c r)) (Lib.indexByte (s.data.toList ++ 33 :: plT c r) 33 + 1) _ = _
  rw [e1, hsz]
  rw [show ((s.size : Nat) : Int) + 1 = ((s.size + 1 : Nat) : Int) from by omega, subV_B]
  congr 1
  rw [show s.data.toList ++ 33 :: plT c r = (s.data.toList ++ [33]) ++ plT c r from by simp, List.take_of_length_le (by rw [List.length_append, List.length_append, hsz]; simp), List.drop_left' (by simp [hsz])]
set_option maxHeartbeats 4000000 in
set_option maxRecDepth 100000 in
theorem rng_fun : FunV 35 (FE encN GRng) := by
  refine fun_of_run (E := envOf [(34, FShow), (65, FCut1)]) (k := 1) (envOK_of _ ⟨show_fun, cut1_fun, trivial⟩) (by kernel_rfl) Tryz.func35 rfl (fun a w => Tryz.call35 a w) Tryz.ntmps35 (by kernel_rfl) (by decide) (by decide) ?_
  intro us r hF hdat
  obtain ⟨nd, hus, hG⟩ := FE_out hF
  clear hF
  subst hus
  have hF := hG
  clear hG
  unfold GRng at hF
  obtain ⟨⟨h1, h2⟩, hF⟩ := ite_some hF
  cases hF
  clear hdat
  simp only [encN]
  obtain ⟨k, op, nm, vk, vn, vs, cs, cc, cr, ts, tc, tr, l, nl, sz, hh, hl, hf, hs⟩ := node_cases nd
  rw [hh] at h1 h2 ⊢
  simp only at h1 h2 ⊢
  rw [hf]
  refine ⟨rfl, ?_⟩
  obtain ⟨u, w, e1⟩ := FCut_cell h2
  have e2 := show_cell h1
  have hn := (rightC_iff.1 h1).1
  have hlen := name_len hn
  have hp1 := plT_len h1
  have hp2 := plT_len h2
  have hsz : cs.data.toList.length = cs.size := rfl
  have hz : (showC cs cc cr).size = cs.size + 1 + (plT cc cr).length := by
    rw [e2, B_size, List.length_append, List.length_cons, hsz]; omega
  have k1 : catV (showC cs cc cr) ⟨#[58]⟩ = some (.str (showC cs cc cr ++ ⟨#[58]⟩)) := catV_ok (by rw [hz]; show _ + 1 ≤ _; omega)
  have k2 : catV (showC cs cc cr ++ ⟨#[58]⟩) (B (plT tc tr)) = some (.str (B (cs.data.toList ++ 33 :: (plT cc cr ++ 58 :: plT tc tr)))) := by
    rw [catV_ok (by rw [cat_size, hz, B_size]; show _ + 1 + _ ≤ _; omega), e2, show (⟨#[58]⟩ : ByteArray) = B [58] from rfl, B_append, B_append]
    congr 3
    simp
  simp (decide := true) (maxDischargeDepth := 200) only [go_sem, FShow, e1, k1, k2, Tryz.results35]

end Go.Proofs.YteibnmlfipkmeaaGreatDoor

/- Formulas written, by the reference: as a function of plain data. -/
namespace Go.Proofs.YteibnmlfipkmeaaGreatDoor
open Go Go.RowKit
set_option linter.unusedSimpArgs false
theorem ite_on {ρ : Type} {p : Prop} {i : Decidable p} {o : Option ρ} {r : ρ} (h : (if p then o else none) = some r) : p ∧ o = some r := ite_some h
/-- What may be written: and no number above an int64, no more than so many nodes. -/
def okP (nd : Nd) : Prop := rN nd = true ∧ smN nd ∧ cnt nd ≤ 400
theorem okP_kid {nd c : Nd} (h : okP nd) (hc : c ∈ nd.ks) : okP c := by
  obtain ⟨h1, h2, h3⟩ := h
  rw [rN_eq] at h1
  simp only [Bool.and_eq_true] at h1
  have := cntL_mem hc
  rw [cnt_eq] at h3
  exact ⟨rL_mem h1.2.1 hc, smL_mem ((smN_eq nd).1 h2).2 hc, by omega⟩
theorem okP_len {nd : Nd} (h : okP nd) : (prP nd).length ≤ 402 * cnt nd := pr_len _ nd (Nat.le_refl _) h.1 h.2.1
theorem okP_hd {nd : Nd} (h : okP nd) : bareB nd.hd nd.ks.length = true ∧ okR nd.hd nd.ks.length = true ∧ nd.hd.vn ≤ 9223372036854775807 := by
  obtain ⟨h1, h2, h3⟩ := h
  rw [rN_eq] at h1
  simp only [Bool.and_eq_true] at h1
  exact ⟨h1.1, h1.2.2, ((smN_eq nd).1 h2).1⟩
theorem com_len {M : Nat} : ∀ (ls : List (List UInt8)), (∀ a ∈ ls, a.length ≤ M) → (comL ls).length ≤ (M + 1) * ls.length
  | [], _ => by simp [comL]
  | [a], h => by
    have := h a (by simp)
    simp only [comL, List.length_cons, List.length_nil]
    omega
  | a :: b :: l, h => by
    have ih := com_len (b :: l) fun x hx => h x (List.mem_cons_of_mem _ hx)
    have := h a (by simp)
    have e : comL (a :: b :: l) = a ++ 44 :: comL (b :: l) := rfl
    rw [e, List.length_append, List.length_cons, List.length_cons, Nat.mul_add, Nat.mul_one]
    omega
/-- What is written of the first kids, with commas between. -/
def comK (l : List Nd) : List UInt8 := comL (l.map prP)
theorem comK_nil : comK [] = [] := rfl
theorem comK_one (c : Nd) : comK ([] ++ [c]) = prP c := rfl
theorem comK_snoc {l : List Nd} (c : Nd) (h : l ≠ []) : comK (l ++ [c]) = comK l ++ [44] ++ prP c := by
  unfold comK
  rw [List.map_append]
  exact com_snoc (prP c) (by simpa using h)
theorem comK_len {l : List Nd} (h : ∀ c ∈ l, okP c) : (comK l).length ≤ 160801 * l.length := by
  have := com_len (M := 160800) (l.map prP) (fun a ha => by
    obtain ⟨c, hc, rfl⟩ := List.mem_map.1 ha
    have := okP_len (h c hc)
    have := (h c hc).2.2
    omega)
  rw [List.length_map] at this
  exact this
theorem catB {a b : List UInt8} (h : a.length + b.length ≤ 9223372036854775807) : catV (B a) (B b) = some (.str (B (a ++ b))) := by
  rw [catV_ok (by rw [B_size, B_size]; exact h), B_append]
theorem catB1 {a : List UInt8} {s : ByteArray} {b : List UInt8} (hs : s = B b) (h : a.length + b.length ≤ 9223372036854775807) : catV (B a) s = some (.str (B (a ++ b))) := by subst hs; exact catB h
theorem catB0 {b a : List UInt8} {s : ByteArray} (hs : s = B b) (h : b.length + a.length ≤ 9223372036854775807) : catV s (B a) = some (.str (B (b ++ a))) := by subst hs; exact catB h
open Classical in
noncomputable def GPrint (nd : Nd) : Option V := if rN nd = true ∧ smN nd ∧ cnt nd ≤ 400 then some (.x (.string (B (prP nd)))) else none
theorem GPrint_of {nd : Nd} (h : okP nd) : GPrint nd = some (.x (.string (B (prP nd)))) := if_pos h
theorem text_cases {l : List UInt8} {i : Nat} {b : UInt8} (h : l[i]? = some b) : l.take (i + 1) = l.take i ++ [b] := by
  rw [List.take_add_one, h]; rfl
theorem name_size {s : ByteArray} (h : callB s = true) : s.size ≤ 8 := by
  simp only [callB, Bool.and_eq_true, decide_eq_true_eq] at h
  omega
theorem op_size {s : ByteArray} (h : opB s = true) : s.size ≤ 2 := by
  simp only [opB, Bool.or_eq_true, decide_eq_true_eq] at h
  rcases h with rfl | rfl | rfl | rfl | rfl | rfl | rfl | rfl | rfl | rfl | rfl <;> decide
set_option maxHeartbeats 16000000 in
set_option maxRecDepth 100000 in
theorem rprint_fun : FunV 19 (FE encN GPrint) := by
  refine fun_rec cnt (fun a w => Tryz.call19 a w) (fun n ih => ?_)
  refine fun_of_run (E := envOf [(19, (FE encN fun a => if cnt a < n then GPrint a else none)), (38, FVShow), (39, FShow), (40, FPlace)]) (k := 1) (envOK_of _ ⟨ih, rvshow_fun, rshow_fun, rplace_fun, trivial⟩) (by kernel_rfl) Tryz.func19 rfl (fun a w => Tryz.call19 a w) Tryz.ntmps19 (by kernel_rfl) (by decide) (by decide) ?_
  intro us r hF hdat
  obtain ⟨nd, hus, hG⟩ := FE_out hF
  clear hF
  subst hus
  obtain ⟨hlt, hF⟩ := ite_some hG
  clear hG
  unfold GPrint at hF
  obtain ⟨hok, hF⟩ := ite_on hF
  have hok : okP nd := hok
  cases hF
  clear hdat
  simp only [encN]
  obtain ⟨k, op, nm, vk, vn, vs, cs, cc, cr, ts, tc, tr, l, nl, sz, hh, hl, hf, hs⟩ := node_cases nd
  have hrec : ∀ (c : Nd), c ∈ l → (FE encN fun a => if cnt a < n then GPrint a else none) [nodeV c] = some (.x (.string (B (prP c)))) := fun c hc => by
    have hc' : c ∈ nd.ks := by rw [hl]; exact hc
    have h1 := cntL_mem hc'
    have h2 := cnt_eq nd
    exact (FE_at encN_inj _ c).trans ((if_pos (by omega)).trans (GPrint_of (okP_kid hok hc')))
  have hkid : ∀ c ∈ l, okP c := fun c hc => okP_kid hok (by rw [hl]; exact hc)
  have hd := okP_hd hok
  rw [hl] at hd
  have nil : l.length = 0 → l = [] := List.eq_nil_of_length_eq_zero
  have hpr := prP_eq nd
  rw [hh, hl] at hpr
  rw [hh] at hd
  obtain ⟨hb, ho, hv⟩ := hd
  rw [hf]
  refine ⟨rfl, ?_⟩
  rcases hd_cases hb ho with ⟨v, e, h0, hn⟩ | ⟨s, e, h0, hn⟩ | ⟨v, e, h0, hn⟩ | ⟨s, c, r, e, h0, hn⟩ | ⟨s, c, r, s', c', r', e, h0, hn⟩ | ⟨e, hn⟩ | ⟨o, e, h0, hn⟩ | ⟨nm', e, h0, hn⟩ | ⟨e, hn⟩
  · obtain ⟨rfl, rfl, rfl, rfl, rfl, rfl, rfl, rfl, rfl, rfl, rfl, rfl⟩ := Hd.mk.inj (show (⟨1, ⟨#[]⟩, ⟨#[]⟩, 1, v, ⟨#[]⟩, ⟨#[]⟩, 0, 0, ⟨#[]⟩, 0, 0⟩ : Hd) = ⟨k, op, nm, vk, vn, vs, cs, cc, cr, ts, tc, tr⟩ from e.symm)
    obtain rfl := nil hn
    have e1 := FVShow_eq (k := 1) (n := v) (s := ⟨#[]⟩) ⟨rfl, .inl ⟨rfl, h0, hv⟩⟩
    have e2 : showW 1 v = B (prP nd) := by rw [hpr]; rfl
    rw [e2] at e1
    simp (decide := true) (maxDischargeDepth := 200) only [go_sem, e1, Tryz.results19]
  · obtain ⟨rfl, rfl, rfl, rfl, rfl, rfl, rfl, rfl, rfl, rfl, rfl, rfl⟩ := Hd.mk.inj (show (⟨1, ⟨#[]⟩, ⟨#[]⟩, 2, 0, s, ⟨#[]⟩, 0, 0, ⟨#[]⟩, 0, 0⟩ : Hd) = ⟨k, op, nm, vk, vn, vs, cs, cc, cr, ts, tc, tr⟩ from e.symm)
    obtain rfl := nil hn
    obtain ⟨t, rfl⟩ := B_of s
    have ht : t.length ≤ 200 := by have : (B t).size = t.length := rfl; omega
    have e2 : prP nd = 34 :: (dbl t ++ [34]) := by rw [hpr]; rfl
    rw [e2]
    clear hpr e2 hrec hkid
    have hdl := dbl_len t
    simp (decide := true) (maxDischargeDepth := 200) only [go_sem, Tryz.results19]
    refine loop_of (X := {i : Nat // i ≤ t.length}) (fun i => [(1, .ptr 1 0), (3, .x (.string (B (34 :: dbl (t.take i.1))))), (4, .x (.int .i64 ((i.1 : Nat) : Int)))]) (fun _ => [(1, [.x (.int .i64 1), .x (.string ⟨#[]⟩), .x (.string ⟨#[]⟩), .x (.int .i64 2), .x (.int .i64 0), .x (.string (B t)), .x (.string ⟨#[]⟩), .x (.int .i64 0), .x (.int .i64 0), .x (.string ⟨#[]⟩), .x (.int .i64 0), .x (.int .i64 0), .sl nl sz [] none])]) (fun i => t.length - i.1) ⟨0, by omega⟩ (by simp (decide := true) only [go_sem] <;> (repeat' first | rfl | constructor)) (by simp (decide := true) only [go_sem] <;> (repeat' first | rfl | constructor)) (fun ⟨i, hi0⟩ => ?_)
    have hti := dbl_len (t.take i)
    rw [List.length_take] at hti
    by_cases hi : i < t.length
    · obtain ⟨b, hb1⟩ : ∃ b, t[i]? = some b := ⟨_, List.getElem?_eq_getElem hi⟩
      have d0 : decide ((i : Int) < ((B t).size : Int)) = true := decide_eq_true (by rw [B_size]; omega)
      have c2 : (0 : Int) ≤ (i : Int) := by omega
      have c3 : (i : Int) < ((B t).size : Int) := by rw [B_size]; omega
      have c4 := count_up (i := i) (by omega)
      have c5 := byteV_B hb1
      have c6 : subV (B t) (i : Int) ((i + 1 : Nat) : Int) = B [b] := by
        rw [subV_B, text_cases hb1, List.drop_left' (by rw [List.length_take]; omega)]
      have c7 : ((i + 1 : Nat) : Int) ≤ ((B t).size : Int) := by rw [B_size]; omega
      have c8 : (i : Int) ≤ ((i + 1 : Nat) : Int) := by omega
      by_cases hq : b = 34
      · subst hq
        have d1 : decide (((34 : UInt8).toNat : Int) = 34) = true := by decide
        have w1 : catV (B (34 :: dbl (t.take i))) ⟨#[34]⟩ = some (.str (B (34 :: (dbl (t.take i) ++ [34])))) := catB1 (a := 34 :: dbl (t.take i)) (b := [34]) rfl (by simp only [List.length_cons, List.length_nil]; omega)
        have w2 : catV (B (34 :: (dbl (t.take i) ++ [34]))) (B [34]) = some (.str (B (((34 :: dbl (t.take i)) ++ [34]) ++ [34]))) := catB (a := 34 :: (dbl (t.take i) ++ [34])) (by simp only [List.length_append, List.length_cons, List.length_nil]; omega)
        have e : B (((34 :: dbl (t.take i)) ++ [34]) ++ [34]) = B (34 :: dbl (t.take (i + 1))) := by rw [text_cases hb1, dbl_quote]; rfl
        rw [e] at w2
        simp (decide := true) (maxDischargeDepth := 200) only [go_sem, d0, c2, c3, c4, c5, c6, c7, c8, d1, w1, w2, Tryz.results19]
        refine ⟨⟨i + 1, by omega⟩, ?_, ?_, by simp only; omega⟩
        · simp (decide := true) only [go_sem]
        · simp (decide := true) only [go_sem]
      · have d1 : decide (((b.toNat : Nat) : Int) = 34) = false := by rw [byte_eq (c := 34) (n := 34) rfl]; exact decide_eq_false hq
        have w2 : catV (B (34 :: dbl (t.take i))) (B [b]) = some (.str (B ((34 :: dbl (t.take i)) ++ [b]))) := catB (by simp only [List.length_cons, List.length_nil]; omega)
        have e : B ((34 :: dbl (t.take i)) ++ [b]) = B (34 :: dbl (t.take (i + 1))) := by rw [text_cases hb1, dbl_other hq]; rfl
        rw [e] at w2
        simp (decide := true) (maxDischargeDepth := 200) only [go_sem, d0, c2, c3, c4, c5, c6, c7, c8, d1, w2, Tryz.results19]
        refine ⟨⟨i + 1, by omega⟩, ?_, ?_, by simp only; omega⟩
        · simp (decide := true) only [go_sem]
        · simp (decide := true) only [go_sem]
    · have d0 : decide ((i : Int) < ((B t).size : Int)) = false := decide_eq_false (by rw [B_size]; omega)
      have e0 : t.take i = t := List.take_of_length_le (by omega)
      have w1 : catV (B (34 :: dbl t)) ⟨#[34]⟩ = some (.str (B (34 :: (dbl t ++ [34])))) := catB1 (a := 34 :: dbl t) (b := [34]) rfl (by simp only [List.length_cons, List.length_nil]; omega)
      simp (decide := true) (maxDischargeDepth := 200) only [go_sem, d0, e0, w1, Tryz.results19]
  · obtain ⟨rfl, rfl, rfl, rfl, rfl, rfl, rfl, rfl, rfl, rfl, rfl, rfl⟩ := Hd.mk.inj (show (⟨1, ⟨#[]⟩, ⟨#[]⟩, 3, v, ⟨#[]⟩, ⟨#[]⟩, 0, 0, ⟨#[]⟩, 0, 0⟩ : Hd) = ⟨k, op, nm, vk, vn, vs, cs, cc, cr, ts, tc, tr⟩ from e.symm)
    obtain rfl := nil hn
    have e1 := FVShow_eq (k := 3) (n := v) (s := ⟨#[]⟩) ⟨rfl, .inr ⟨rfl, h0⟩⟩
    have e2 : showW 3 v = B (prP nd) := by
      rw [hpr]
      rcases h0 with rfl | rfl <;> rfl
    rw [e2] at e1
    simp (decide := true) (maxDischargeDepth := 200) only [go_sem, e1, Tryz.results19]
  · obtain ⟨rfl, rfl, rfl, rfl, rfl, rfl, rfl, rfl, rfl, rfl, rfl, rfl⟩ := Hd.mk.inj (show (⟨2, ⟨#[]⟩, ⟨#[]⟩, 0, 0, ⟨#[]⟩, s, c, r, ⟨#[]⟩, 0, 0⟩ : Hd) = ⟨k, op, nm, vk, vn, vs, cs, cc, cr, ts, tc, tr⟩ from e.symm)
    obtain rfl := nil hn
    have e1 := show_cell h0
    have e2 : B (s.data.toList ++ 33 :: plT c r) = B (prP nd) := by rw [hpr]; rfl
    rw [e2] at e1
    simp (decide := true) (maxDischargeDepth := 200) only [go_sem, FShow, e1, Tryz.results19]
  · obtain ⟨rfl, rfl, rfl, rfl, rfl, rfl, rfl, rfl, rfl, rfl, rfl, rfl⟩ := Hd.mk.inj (show (⟨3, ⟨#[]⟩, ⟨#[]⟩, 0, 0, ⟨#[]⟩, s, c, r, s', c', r'⟩ : Hd) = ⟨k, op, nm, vk, vn, vs, cs, cc, cr, ts, tc, tr⟩ from e.symm)
    obtain rfl := nil hn
    obtain ⟨rfl, h1, h2⟩ := okA_sheet h0
    have e1 := show_cell h1
    have hl1 := plT_len h1
    have hl2 := plT_len h2
    have hnl := name_len (rightC_iff.1 h1).1
    have hsz : s.data.toList.length = s.size := rfl
    obtain ⟨q1, q2, q3, q4⟩ := (rightC_iff.1 h2).2
    have e4 : B (colP c'.toNat) ++ B (dec3 r'.toNat) = B (plT c' r') := B_append _ _
    have e2 : prP nd = (s.data.toList ++ 33 :: plT c r) ++ [58] ++ plT c' r' := by
      rw [hpr]
      show s.data.toList ++ 33 :: (plT c r ++ 58 :: plT c' r') = _
      simp
    have w1 : catV (B (s.data.toList ++ 33 :: plT c r)) ⟨#[58]⟩ = some (.str (B ((s.data.toList ++ 33 :: plT c r) ++ [58]))) := catB1 (b := [58]) rfl (by simp only [List.length_append, List.length_cons, List.length_nil, hsz]; omega)
    have w2 : catV (B ((s.data.toList ++ 33 :: plT c r) ++ [58])) (B (plT c' r')) = some (.str (B ((s.data.toList ++ 33 :: plT c r) ++ [58] ++ plT c' r'))) := catB (by simp only [List.length_append, List.length_cons, List.length_nil, hsz]; omega)
    rw [e2]
    simp (decide := true) (maxDischargeDepth := 200) only [go_sem, FShow, FPlace, q1, q2, q3, q4, e1, e4, w1, w2, Tryz.results19]
  · obtain ⟨rfl, rfl, rfl, rfl, rfl, rfl, rfl, rfl, rfl, rfl, rfl, rfl⟩ := Hd.mk.inj (show (⟨4, ⟨#[45]⟩, ⟨#[]⟩, 0, 0, ⟨#[]⟩, ⟨#[]⟩, 0, 0, ⟨#[]⟩, 0, 0⟩ : Hd) = ⟨k, op, nm, vk, vn, vs, cs, cc, cr, ts, tc, tr⟩ from e.symm)
    obtain ⟨a, rfl⟩ := List.length_eq_one_iff.1 hn
    obtain rfl := hs (by simp)
    have ha := hrec a (by simp)
    have hal := okP_len (hkid a (by simp))
    have hac := (hkid a (by simp)).2.2
    have e2 : prP nd = 45 :: prP a := by rw [hpr]; rfl
    have w1 : catV ⟨#[45]⟩ (B (prP a)) = some (.str (B (45 :: prP a))) := catB0 (b := [45]) rfl (by simp only [List.length_cons, List.length_nil]; omega)
    rw [e2]
    clear hrec hkid hpr
    obtain ⟨k1, op1, nm1, vk1, vn1, vs1, cs1, cc1, cr1, ts1, tc1, tr1, l1, nl1, sz1, hh1, hl1, hf1, hs1⟩ := node_cases a
    rw [hf1] at ha
    simp (decide := true) (maxDischargeDepth := 200) only [go_sem, hf1, ha, w1, Tryz.results19]
  · obtain ⟨rfl, rfl, rfl, rfl, rfl, rfl, rfl, rfl, rfl, rfl, rfl, rfl⟩ := Hd.mk.inj (show (⟨5, o, ⟨#[]⟩, 0, 0, ⟨#[]⟩, ⟨#[]⟩, 0, 0, ⟨#[]⟩, 0, 0⟩ : Hd) = ⟨k, op, nm, vk, vn, vs, cs, cc, cr, ts, tc, tr⟩ from e.symm)
    obtain ⟨a, b, rfl⟩ : ∃ a b, l = [a, b] := by
      match l, hn with
      | [a, b], _ => exact ⟨a, b, rfl⟩
    obtain rfl := hs (by simp)
    have ha := hrec a (by simp)
    have hbb := hrec b (by simp)
    have hal := okP_len (hkid a (by simp))
    have hac := (hkid a (by simp)).2.2
    have hbl := okP_len (hkid b (by simp))
    have hbc := (hkid b (by simp)).2.2
    have hol := op_size h0
    obtain ⟨o, rfl⟩ := B_of o
    have hol : o.length ≤ 2 := hol
    have e2 : prP nd = 40 :: (prP a ++ o ++ prP b ++ [41]) := by
      rw [hpr]
      show 40 :: (prP a ++ (o ++ (prP b ++ [41]))) = _
      simp
    have w1 : catV ⟨#[40]⟩ (B (prP a)) = some (.str (B (40 :: prP a))) := catB0 (b := [40]) rfl (by simp only [List.length_cons, List.length_nil]; omega)
    have w2 : catV (B (40 :: prP a)) (B o) = some (.str (B (40 :: (prP a ++ o)))) := catB (a := 40 :: prP a) (by simp only [List.length_append, List.length_cons, List.length_nil]; omega)
    have w3 : catV (B (40 :: (prP a ++ o))) (B (prP b)) = some (.str (B (40 :: (prP a ++ o ++ prP b)))) := catB (a := 40 :: (prP a ++ o)) (by simp only [List.length_append, List.length_cons, List.length_nil]; omega)
    have w4 : catV (B (40 :: (prP a ++ o ++ prP b))) ⟨#[41]⟩ = some (.str (B (40 :: (prP a ++ o ++ prP b ++ [41])))) := catB1 (a := 40 :: (prP a ++ o ++ prP b)) (b := [41]) rfl (by simp only [List.length_append, List.length_cons, List.length_nil]; omega)
    rw [e2]
    clear hrec hkid hpr
    obtain ⟨k1, op1, nm1, vk1, vn1, vs1, cs1, cc1, cr1, ts1, tc1, tr1, l1, nl1, sz1, hh1, hl1, hf1, hs1⟩ := node_cases a
    obtain ⟨k2, op2, nm2, vk2, vn2, vs2, cs2, cc2, cr2, ts2, tc2, tr2, l2, nl2, sz2, hh2, hl2, hf2, hs2⟩ := node_cases b
    rw [hf1] at ha
    rw [hf2] at hbb
    simp (decide := true) (maxDischargeDepth := 200) only [go_sem, hf1, hf2, ha, hbb, w1, w2, w3, w4, Tryz.results19]
  · obtain ⟨rfl, rfl, rfl, rfl, rfl, rfl, rfl, rfl, rfl, rfl, rfl, rfl⟩ := Hd.mk.inj (show (⟨6, ⟨#[]⟩, nm', 0, 0, ⟨#[]⟩, ⟨#[]⟩, 0, 0, ⟨#[]⟩, 0, 0⟩ : Hd) = ⟨k, op, nm, vk, vn, vs, cs, cc, cr, ts, tc, tr⟩ from e.symm)
    have hnl := name_size h0
    obtain ⟨t, rfl⟩ := B_of nm'
    have hnl : t.length ≤ 8 := hnl
    have e2 : prP nd = t ++ [40] ++ comK l ++ [41] := by
      rw [hpr]
      show t ++ 40 :: (comK l ++ [41]) = _
      simp
    rw [e2]
    clear hpr
    have w1 : catV (B t) ⟨#[40]⟩ = some (.str (B (t ++ [40]))) := catB1 (b := [40]) rfl (by simp only [List.length_cons, List.length_nil]; omega)
    simp (decide := true) (maxDischargeDepth := 200) only [go_sem, w1, Tryz.results19]
    refine loop_of (X := {i : Nat // i ≤ l.length}) (fun i => [(1, .ptr 1 0), (5, .x (.string (B (t ++ [40] ++ comK (l.take i.1))))), (6, .x (.int .i64 ((i.1 : Nat) : Int)))]) (fun _ => [(1, [.x (.int .i64 6), .x (.string ⟨#[]⟩), .x (.string (B t)), .x (.int .i64 0), .x (.int .i64 0), .x (.string ⟨#[]⟩), .x (.string ⟨#[]⟩), .x (.int .i64 0), .x (.int .i64 0), .x (.string ⟨#[]⟩), .x (.int .i64 0), .x (.int .i64 0), .sl nl sz (l.map nodeV) none])]) (fun i => l.length - i.1) ⟨0, by omega⟩ (by simp (decide := true) only [go_sem, comK_nil, List.append_nil] <;> (repeat' first | rfl | constructor)) (by simp (decide := true) only [go_sem] <;> (repeat' first | rfl | constructor)) (fun ⟨i, hi0⟩ => ?_)
    have hck := comK_len (l := l.take i) (fun c hc => hkid c (List.mem_of_mem_take hc))
    rw [List.length_take] at hck
    by_cases hi : i < l.length
    · obtain ⟨c, hc1, hc2⟩ := kid_at hi
      obtain rfl := sz_kids hs hi
      have hmem : c ∈ l := List.mem_of_getElem? hc1
      have hcc := hrec c hmem
      have hcl := okP_len (hkid c hmem)
      have hcn := (hkid c hmem).2.2
      obtain ⟨k3, op3, nm3, vk3, vn3, vs3, cs3, cc3, cr3, ts3, tc3, tr3, l3, nl3, sz3, hh3, hl3, hf3, hs3⟩ := node_cases c
      rw [hf3] at hc2 hcc
      have c1 : decide ((i : Int) < (l.length : Int)) = true := decide_eq_true (by omega)
      have c2 : (0 : Int) ≤ (i : Int) := by omega
      have c4 := count_up (i := i) (by omega)
      have ht := take_snoc' hc1
      by_cases h00 : i = 0
      · subst h00
        have d1 : decide ((0 : Int) < ((0 : Nat) : Int)) = false := by decide
        have w2 : catV (B (t ++ [40] ++ comK [])) (B (prP c)) = some (.str (B (t ++ [40] ++ comK (l.take (0 + 1))))) := by
          rw [catB (by simp only [comK_nil, List.length_append, List.length_cons, List.length_nil]; omega), ht]
          simp only [List.take_zero, comK_nil, comK_one, List.append_nil]
        simp (decide := true) (maxDischargeDepth := 200) only [go_sem, List.length_map, c1, c2, c4, hc2, hcc, d1, w2, Tryz.results19]
        refine ⟨⟨0 + 1, by omega⟩, ?_, ?_, by simp only; omega⟩
        · simp (decide := true) only [go_sem]
        · simp (decide := true) only [go_sem]
      · have d1 : decide ((0 : Int) < (i : Int)) = true := decide_eq_true (by omega)
        have w2 : catV (B (t ++ [40] ++ comK (l.take i))) ⟨#[44]⟩ = some (.str (B (t ++ [40] ++ comK (l.take i) ++ [44]))) := catB1 (b := [44]) rfl (by simp only [List.length_append, List.length_cons, List.length_nil]; omega)
        have w3 : catV (B (t ++ [40] ++ comK (l.take i) ++ [44])) (B (prP c)) = some (.str (B (t ++ [40] ++ comK (l.take (i + 1))))) := by
          rw [catB (by simp only [List.length_append, List.length_cons, List.length_nil]; omega), ht, comK_snoc c (fun e => by rw [← List.length_eq_zero_iff, List.length_take] at e; omega)]
          simp only [List.append_assoc]
        simp (decide := true) (maxDischargeDepth := 200) only [go_sem, List.length_map, c1, c2, c4, hc2, hcc, d1, w2, w3, Tryz.results19]
        refine ⟨⟨i + 1, by omega⟩, ?_, ?_, by simp only; omega⟩
        · simp (decide := true) only [go_sem]
        · simp (decide := true) only [go_sem]
    · have c1 : decide ((i : Int) < (l.length : Int)) = false := decide_eq_false (by omega)
      have e0 : l.take i = l := List.take_of_length_le (by omega)
      rw [e0] at hck
      have w2 : catV (B (t ++ [40] ++ comK l)) ⟨#[41]⟩ = some (.str (B (t ++ [40] ++ comK l ++ [41]))) := catB1 (b := [41]) rfl (by simp only [List.length_append, List.length_cons, List.length_nil]; omega)
      simp (decide := true) (maxDischargeDepth := 200) only [go_sem, List.length_map, c1, e0, w2, Tryz.results19]
  · obtain ⟨rfl, rfl, rfl, rfl, rfl, rfl, rfl, rfl, rfl, rfl, rfl, rfl⟩ := Hd.mk.inj (show (⟨7, ⟨#[]⟩, ⟨#[]⟩, 0, 0, ⟨#[]⟩, ⟨#[]⟩, 0, 0, ⟨#[]⟩, 0, 0⟩ : Hd) = ⟨k, op, nm, vk, vn, vs, cs, cc, cr, ts, tc, tr⟩ from e.symm)
    obtain rfl := nil hn
    have e2 : (⟨#[82, 69, 70, 33]⟩ : ByteArray) = B (prP nd) := by rw [hpr]; rfl
    simp (decide := true) (maxDischargeDepth := 200) only [go_sem, e2, Tryz.results19]

end Go.Proofs.YteibnmlfipkmeaaGreatDoor

/- Formulas written, by package printer: rows of bytes that are handed on and back. -/
namespace Go.Proofs.YteibnmlfipkmeaaGreatDoor
open Go Go.RowKit
set_option linter.unusedSimpArgs false
/-- Bytes, as a row's elements. -/
def bL (l : List UInt8) : List V := l.map fun b => .x (.int .u8 b.toNat)
theorem bL_app (a b : List UInt8) : bL (a ++ b) = bL a ++ bL b := by simp [bL]
theorem bytesV_B (l : List UInt8) : bytesV (B l) = bL l := rfl
theorem bL_len (l : List UInt8) : (bL l).length = l.length := by simp [bL]
theorem bL_cells (l : List UInt8) : ((bL l).all fun u => u.cells.all V.cell) = true := by
  rw [List.all_eq_true]
  intro u hu
  obtain ⟨b, _, rfl⟩ := List.mem_map.1 hu
  rfl
theorem bL_inj : ∀ (a b : List UInt8), bL a = bL b → a = b
  | [], [], _ => rfl
  | [], _ :: _, h => by cases h
  | _ :: _, [], h => by cases h
  | x :: a, y :: b, h => by
    obtain ⟨h1, h2⟩ := List.cons.inj (show V.x (.int .u8 x.toNat) :: bL a = V.x (.int .u8 y.toNat) :: bL b from h)
    have h3 : (x.toNat : Int) = (y.toNat : Int) := (Value.int.inj (V.x.inj h1)).2
    rw [bL_inj a b h2, UInt8.toNat_inj.1 (by omega : x.toNat = y.toNat)]
theorem bytesOf_bL : ∀ (l : List UInt8), bytesOf (bL l) = some l
  | [] => rfl
  | b :: l => by
    have ih := bytesOf_bL l
    show (match bytesOf (bL l) with | some r => some (UInt8.ofNat (b.toNat : Int).toNat :: r) | none => none) = _
    rw [ih]
    simp
theorem rowA_inj {n : Nat} {a b : List V} (h : rowA n a = rowA n b) : a = b := by
  cases a with
  | nil => cases b with
    | nil => rfl
    | cons y b => rw [rowA_nil, rowA_of n (by simp)] at h; cases h
  | cons x a => cases b with
    | nil => rw [rowA_nil, rowA_of n (by simp)] at h; cases h
    | cons y b => rw [rowA_of n (by simp), rowA_of n (by simp)] at h; exact (V.sl.inj h).2.2.1
/-- Bytes behind bytes. -/
theorem push_b {E : Env} (hP : E.P = Tryz.prog) (a b : List UInt8) (h : a.length + b.length ≤ 1000000000) (st : St) (d tok : Nat) (nl : Bool) (t' : Option Nat) :
    growV E st (some d) 5 (.sl (bL a).isEmpty 1 (bL a) (some tok)) (.sl nl 1 (bL b) t') = some ⟨upd (strip tok (strip d st.t)) d (.sl (bL (a ++ b)).isEmpty 1 (bL (a ++ b)) (some d)), stripB E tok (stripB E d st.b)⟩ := by
  rw [bL_app]
  exact growV_app (E := E) (n := 1) (by rw [hP]; exact sz5) (by rw [hP]; exact by5) (by rw [hP]; exact ze5) (by decide) rfl (bL_cells b) (by rw [bL_len, bL_len]; omega) (by rw [bL_len, bL_len]; omega) st d tok nl t'
theorem any_dagF {E : Env} {ops : List Oper} {st : St} {K : St → Prop} (ents : List (Nat × Nat × Nat × V)) (bs : List (Nat × List V)) (ps : List (Nat × Nat × Nat)) (full : Nat) (hf : 2 ^ ops.length - 1 = full) (h : dagOK ops ps = true) (h0 : leT st (selT ents 0) ∧ leB st bs) (ht : dagT E ops ents bs ps)
    (hk : K (stOf (selT ents full) bs)) : AnyV E ops st K := any_dag ents bs ps h h0 ht (hf ▸ hk)
theorem stripB_B0 (l : List (Nat × (List V → Option V))) (M : Nat → Bool) (lp : List (Nat × (List V → Option (V × List (List V))))) (any : Nat → Bool) (k : Nat) (b : Nat → Option (List V)) : stripB (envB l M lp (fun _ => false) any) k b = b := rfl
theorem nodup_one (k : Nat) : [k].Nodup := by simp
attribute [go_sem] stripB_B0 bytesV_B nodup_one
def encRN (p : List UInt8 × Nd) : List V := [rowA 1 (bL p.1), nodeV p.2]
theorem encRN_inj (p q : List UInt8 × Nd) (e : encRN p = encRN q) : p = q := by
  obtain ⟨h1, h2⟩ := List.cons.inj e
  exact Prod.ext (bL_inj _ _ (rowA_inj h1)) (nodeV_inj _ _ (List.cons.inj h2).1)
def rowR (l : List UInt8) : V := .sl (bL l).isEmpty 1 (bL l) (some 0)
open Classical in
/-- What is written behind what was there. -/
noncomputable def GApp (a : List UInt8 × Nd) : Option (V × List (List V)) := if okP a.2 ∧ a.1.length + 402 * cnt a.2 ≤ 1000000 then some (rowR (a.1 ++ prP a.2), []) else none
noncomputable def GAppK (k : Int) (a : List UInt8 × Nd) : Option (V × List (List V)) := if a.2.hd.k = k then GApp a else none
theorem GApp_of {p : List UInt8} {nd : Nd} (h : okP nd) (hl : p.length + 402 * cnt nd ≤ 1000000) : GApp (p, nd) = some (rowR (p ++ prP nd), []) := if_pos ⟨h, hl⟩
theorem cnt_takeL : ∀ (l : List Nd) (i : Nat), cntL (l.take i) ≤ cntL l
  | [], _ => by simp [cntL]
  | c :: l, 0 => by simp [cntL]
  | c :: l, i + 1 => by
    have := cnt_takeL l i
    simp only [List.take_succ_cons, cntL]
    omega
theorem cnt_take : ∀ {l : List Nd} {i : Nat} {c : Nd}, l[i]? = some c → cntL (l.take i) + cnt c ≤ cntL l
  | [], _, _, h => by simp at h
  | x :: l, 0, c, h => by
    simp at h
    subst h
    simp only [List.take_zero, cntL]
    omega
  | x :: l, i + 1, c, h => by
    have := cnt_take (l := l) (i := i) (c := c) (by simpa using h)
    simp only [List.take_succ_cons, cntL]
    omega
theorem com_sum : ∀ {l : List Nd}, (∀ c ∈ l, okP c) → (comK l).length ≤ 402 * cntL l + l.length
  | [], _ => by simp [comK_nil]
  | [a], h => by
    have := okP_len (h a (by simp))
    show (prP a).length ≤ _
    simp only [cntL, List.length_cons, List.length_nil]
    omega
  | a :: b :: l, h => by
    have ih := com_sum (l := b :: l) fun x hx => h x (List.mem_cons_of_mem _ hx)
    have := okP_len (h a (by simp))
    have e : comK (a :: b :: l) = prP a ++ 44 :: comK (b :: l) := rfl
    rw [e, List.length_append, List.length_cons]
    simp only [cntL, List.length_cons] at ih ⊢
    omega
theorem com_bound {l : List Nd} (h : ∀ c ∈ l, okP c) (hl : l.length ≤ 20) : (comK l).length ≤ 402 * cntL l + 20 := Nat.le_trans (com_sum h) (by omega)
theorem pair_form {nd : Nd} (h : okP nd) (hk : nd.hd.k = 5) : ∃ o a b, nd.hd = { hz with k := 5, op := B o } ∧ nd.ks = [a, b] ∧ o.length ≤ 2 ∧ prP nd = [40] ++ prP a ++ o ++ prP b ++ [41] := by
  obtain ⟨hb, ho, hv⟩ := okP_hd h
  have hpr := prP_eq nd
  rcases hd_cases hb ho with ⟨v, e, h0, hn⟩ | ⟨s, e, h0, hn⟩ | ⟨v, e, h0, hn⟩ | ⟨s, c, r, e, h0, hn⟩ | ⟨s, c, r, s', c', r', e, h0, hn⟩ | ⟨e, hn⟩ | ⟨o, e, h0, hn⟩ | ⟨nm', e, h0, hn⟩ | ⟨e, hn⟩
  all_goals first | (exfalso; rw [e] at hk; revert hk; simp (decide := true) only [hz, callH]; done) | skip
  generalize hks : nd.ks = ks at hn hpr
  obtain ⟨a, b, rfl⟩ : ∃ a b, ks = [a, b] := by
    match ks, hn with
    | [a, b], _ => exact ⟨a, b, rfl⟩
  have hol := op_size h0
  obtain ⟨o, rfl⟩ := B_of o
  refine ⟨o, a, b, e, rfl, hol, ?_⟩
  rw [hpr, e]
  show 40 :: (prP a ++ (o ++ (prP b ++ [41]))) = _
  simp
theorem call_form {nd : Nd} (h : okP nd) (hk : nd.hd.k = 6) : ∃ t, nd.hd = { hz with k := 6, nm := B t } ∧ nd.ks.length ≤ 20 ∧ t.length ≤ 8 ∧ prP nd = t ++ [40] ++ comK nd.ks ++ [41] := by
  obtain ⟨hb, ho, hv⟩ := okP_hd h
  have hpr := prP_eq nd
  rcases hd_cases hb ho with ⟨v, e, h0, hn⟩ | ⟨s, e, h0, hn⟩ | ⟨v, e, h0, hn⟩ | ⟨s, c, r, e, h0, hn⟩ | ⟨s, c, r, s', c', r', e, h0, hn⟩ | ⟨e, hn⟩ | ⟨o, e, h0, hn⟩ | ⟨nm', e, h0, hn⟩ | ⟨e, hn⟩
  all_goals first | (exfalso; rw [e] at hk; revert hk; simp (decide := true) only [hz, callH]; done) | skip
  have hnl := name_size h0
  obtain ⟨t, rfl⟩ := B_of nm'
  refine ⟨t, e, by omega, hnl, ?_⟩
  rw [hpr, e]
  show t ++ 40 :: (comK nd.ks ++ [41]) = _
  simp
set_option maxHeartbeats 16000000 in
set_option maxRecDepth 100000 in
theorem pair_step' (n : Nat) (ha : FunPV 18 (FE encRN fun a => if cnt a.2 < n then GApp a else none)) : FunPV 36 (FE encRN fun a => if cnt a.2 < n + 1 then GAppK 5 a else none) := by
  refine fun_of_runO (E := envB [] (fun _ => false) [(18, (FE encRN fun a => if cnt a.2 < n then GApp a else none))] (fun _ => false) (fun i => i == 1 || i == 2)) (k := 2) (envOK_B _ _ _ _ _ trivial ⟨ha, trivial⟩) (fun _ _ => rfl) (by kernel_rfl) Tryz.func36 rfl (fun a w => Tryz.call36 a w) Tryz.ntmps36 (by kernel_rfl) (by decide) (by decide) ?_
  intro us r outs hF
  obtain ⟨⟨p, nd⟩, hus, hG⟩ := FE_out hF
  clear hF
  subst hus
  obtain ⟨hlt, hG⟩ := ite_on hG
  obtain ⟨hk, hG⟩ := ite_on hG
  obtain ⟨⟨hok, hpl⟩, hG⟩ := ite_on hG
  cases hG
  simp only at hlt hk hok hpl
  simp only [encRN]
  obtain ⟨o, a, b, e, hks, hol, hpr⟩ := pair_form hok hk
  have hpa : okP a := okP_kid hok (by rw [hks]; simp)
  have hpb : okP b := okP_kid hok (by rw [hks]; simp)
  have hc : cnt nd = 1 + (cnt a + (cnt b + 0)) := by rw [cnt_eq, hks]; rfl
  have hal := okP_len hpa
  have hbl := okP_len hpb
  obtain ⟨k, op, nm, vk, vn, vs, cs, cc, cr, ts, tc, tr, l, nl, sz, hh, hl, hf, hs⟩ := node_cases nd
  rw [hh] at e
  rw [hl] at hks
  obtain ⟨rfl, rfl, rfl, rfl, rfl, rfl, rfl, rfl, rfl, rfl, rfl, rfl⟩ := Hd.mk.inj (show (⟨5, B o, ⟨#[]⟩, 0, 0, ⟨#[]⟩, ⟨#[]⟩, 0, 0, ⟨#[]⟩, 0, 0⟩ : Hd) = ⟨k, op, nm, vk, vn, vs, cs, cc, cr, ts, tc, tr⟩ from e.symm)
  subst hks
  obtain rfl := hs (by simp)
  have r1 : (FE encRN fun a => if cnt a.2 < n then GApp a else none) [rowA 1 (bL (p ++ [40])), nodeV a] = some (rowR ((p ++ [40]) ++ prP a), []) := (FE_at encRN_inj _ (p ++ [40], a)).trans ((if_pos (by simp only; omega)).trans (GApp_of hpa (by simp only [List.length_append, List.length_cons, List.length_nil]; omega)))
  have r2 : (FE encRN fun a => if cnt a.2 < n then GApp a else none) [rowA 1 (bL (p ++ [40] ++ prP a ++ o)), nodeV b] = some (rowR ((p ++ [40] ++ prP a ++ o) ++ prP b), []) := (FE_at encRN_inj _ (p ++ [40] ++ prP a ++ o, b)).trans ((if_pos (by simp only; omega)).trans (GApp_of hpb (by simp only [List.length_append, List.length_cons, List.length_nil]; omega)))
  have g1 : ∀ (st : St) (tok : Nat), growV (envB [] (fun _ => false) [(18, (FE encRN fun a => if cnt a.2 < n then GApp a else none))] (fun _ => false) (fun i => i == 1 || i == 2)) st (some 7) 5 (.sl (bL (p)).isEmpty 1 (bL (p)) (some tok)) (.sl false 1 [.x (.int .u8 40)] none) = some ⟨upd (strip tok (strip 7 st.t)) 7 (.sl (bL ((p) ++ ([40]))).isEmpty 1 (bL ((p) ++ ([40]))) (some 7)), stripB (envB [] (fun _ => false) [(18, (FE encRN fun a => if cnt a.2 < n then GApp a else none))] (fun _ => false) (fun i => i == 1 || i == 2)) tok (stripB (envB [] (fun _ => false) [(18, (FE encRN fun a => if cnt a.2 < n then GApp a else none))] (fun _ => false) (fun i => i == 1 || i == 2)) 7 st.b)⟩ := fun st tok => push_b (E := envB [] (fun _ => false) [(18, (FE encRN fun a => if cnt a.2 < n then GApp a else none))] (fun _ => false) (fun i => i == 1 || i == 2)) rfl (p) ([40]) (by simp only [List.length_append, List.length_cons, List.length_nil]; omega) st 7 tok false none
  have g2 : ∀ (st : St) (tok : Nat), growV (envB [] (fun _ => false) [(18, (FE encRN fun a => if cnt a.2 < n then GApp a else none))] (fun _ => false) (fun i => i == 1 || i == 2)) st (some 16) 5 (.sl (bL (p ++ [40] ++ prP a)).isEmpty 1 (bL (p ++ [40] ++ prP a)) (some tok)) (.sl false 1 (bL o) none) = some ⟨upd (strip tok (strip 16 st.t)) 16 (.sl (bL ((p ++ [40] ++ prP a) ++ (o))).isEmpty 1 (bL ((p ++ [40] ++ prP a) ++ (o))) (some 16)), stripB (envB [] (fun _ => false) [(18, (FE encRN fun a => if cnt a.2 < n then GApp a else none))] (fun _ => false) (fun i => i == 1 || i == 2)) tok (stripB (envB [] (fun _ => false) [(18, (FE encRN fun a => if cnt a.2 < n then GApp a else none))] (fun _ => false) (fun i => i == 1 || i == 2)) 16 st.b)⟩ := fun st tok => push_b (E := envB [] (fun _ => false) [(18, (FE encRN fun a => if cnt a.2 < n then GApp a else none))] (fun _ => false) (fun i => i == 1 || i == 2)) rfl (p ++ [40] ++ prP a) (o) (by simp only [List.length_append, List.length_cons, List.length_nil]; omega) st 16 tok false none
  have g3 : ∀ (st : St) (tok : Nat), growV (envB [] (fun _ => false) [(18, (FE encRN fun a => if cnt a.2 < n then GApp a else none))] (fun _ => false) (fun i => i == 1 || i == 2)) st (some 24) 5 (.sl (bL (p ++ [40] ++ prP a ++ o ++ prP b)).isEmpty 1 (bL (p ++ [40] ++ prP a ++ o ++ prP b)) (some tok)) (.sl false 1 [.x (.int .u8 41)] none) = some ⟨upd (strip tok (strip 24 st.t)) 24 (.sl (bL ((p ++ [40] ++ prP a ++ o ++ prP b) ++ ([41]))).isEmpty 1 (bL ((p ++ [40] ++ prP a ++ o ++ prP b) ++ ([41]))) (some 24)), stripB (envB [] (fun _ => false) [(18, (FE encRN fun a => if cnt a.2 < n then GApp a else none))] (fun _ => false) (fun i => i == 1 || i == 2)) tok (stripB (envB [] (fun _ => false) [(18, (FE encRN fun a => if cnt a.2 < n then GApp a else none))] (fun _ => false) (fun i => i == 1 || i == 2)) 24 st.b)⟩ := fun st tok => push_b (E := envB [] (fun _ => false) [(18, (FE encRN fun a => if cnt a.2 < n then GApp a else none))] (fun _ => false) (fun i => i == 1 || i == 2)) rfl (p ++ [40] ++ prP a ++ o ++ prP b) ([41]) (by simp only [List.length_append, List.length_cons, List.length_nil]; omega) st 24 tok false none
  have ef : p ++ prP nd = p ++ [40] ++ prP a ++ o ++ prP b ++ [41] := by rw [hpr]; simp
  simp only [rowR, ef] at r1 r2 ⊢
  refine ⟨rfl, _, start_row 1 (bL p) [nodeV nd], ?_⟩
  clear hpr ef hok hpa hpb hh hl hs
  obtain ⟨k1, op1, nm1, vk1, vn1, vs1, cs1, cc1, cr1, ts1, tc1, tr1, l1, nl1, sz1, hh1, hl1, hf1, hs1⟩ := node_cases a
  obtain ⟨k2, op2, nm2, vk2, vn2, vs2, cs2, cc2, cr2, ts2, tc2, tr2, l2, nl2, sz2, hh2, hl2, hf2, hs2⟩ := node_cases b
  rw [hf1] at r1
  rw [hf2] at r2
  rw [hf]
  simp (decide := true) (maxDischargeDepth := 200) only [go_sem, hf1, hf2, Tryz.results36]
  refine any_dagF [(0, 4, 0, .sl (bL (p)).isEmpty 1 (bL (p)) (some 1000)), (0, 0, 3, .ptr 3 0), (1, 4, 5, .sl (bL (p)).isEmpty 1 (bL (p)) (some 1000)), (2, 0, 6, .sl false 1 [.x (.int .u8 40)] none), (4, 128, 7, .sl (bL (p ++ [40])).isEmpty 1 (bL (p ++ [40])) (some 7)), (8, 0, 8, .ptr 3 12), (16, 0, 9, .sl nl 13 [.agg [.x (.int .i64 k1), .x (.string op1), .x (.string nm1), .x (.int .i64 vk1), .x (.int .i64 vn1), .x (.string vs1), .x (.string cs1), .x (.int .i64 cc1), .x (.int .i64 cr1), .x (.string ts1), .x (.int .i64 tc1), .x (.int .i64 tr1), .sl nl1 sz1 (l1.map nodeV) none], .agg [.x (.int .i64 k2), .x (.string op2), .x (.string nm2), .x (.int .i64 vk2), .x (.int .i64 vn2), .x (.string vs2), .x (.string cs2), .x (.int .i64 cc2), .x (.int .i64 cr2), .x (.string ts2), .x (.int .i64 tc2), .x (.int .i64 tr2), .sl nl2 sz2 (l2.map nodeV) none]] none), (32, 0, 10, .ip [.x (.int .i64 k1), .x (.string op1), .x (.string nm1), .x (.int .i64 vk1), .x (.int .i64 vn1), .x (.string vs1), .x (.string cs1), .x (.int .i64 cc1), .x (.int .i64 cr1), .x (.string ts1), .x (.int .i64 tc1), .x (.int .i64 tr1), .sl nl1 sz1 (l1.map nodeV) none]), (64, 0, 11, .agg [.x (.int .i64 k1), .x (.string op1), .x (.string nm1), .x (.int .i64 vk1), .x (.int .i64 vn1), .x (.string vs1), .x (.string cs1), .x (.int .i64 cc1), .x (.int .i64 cr1), .x (.string ts1), .x (.int .i64 tc1), .x (.int .i64 tr1), .sl nl1 sz1 (l1.map nodeV) none]), (128, 256, 12, .sl (bL (p ++ [40] ++ prP a)).isEmpty 1 (bL (p ++ [40] ++ prP a)) (some 12)), (256, 0, 0, .sl (bL (p ++ [40] ++ prP a)).isEmpty 1 (bL (p ++ [40] ++ prP a)) (some 12))] [(3, [.x (.int .i64 5), .x (.string (B o)), .x (.string ⟨#[]⟩), .x (.int .i64 0), .x (.int .i64 0), .x (.string ⟨#[]⟩), .x (.string ⟨#[]⟩), .x (.int .i64 0), .x (.int .i64 0), .x (.string ⟨#[]⟩), .x (.int .i64 0), .x (.int .i64 0), .sl nl 13 [.agg [.x (.int .i64 k1), .x (.string op1), .x (.string nm1), .x (.int .i64 vk1), .x (.int .i64 vn1), .x (.string vs1), .x (.string cs1), .x (.int .i64 cc1), .x (.int .i64 cr1), .x (.string ts1), .x (.int .i64 tc1), .x (.int .i64 tr1), .sl nl1 sz1 (l1.map nodeV) none], .agg [.x (.int .i64 k2), .x (.string op2), .x (.string nm2), .x (.int .i64 vk2), .x (.int .i64 vn2), .x (.string vs2), .x (.string cs2), .x (.int .i64 cc2), .x (.int .i64 cr2), .x (.string ts2), .x (.int .i64 tc2), .x (.int .i64 tr2), .sl nl2 sz2 (l2.map nodeV) none]] none])] [(0, 0, 1), (0, 1, 2), (0, 3, 8), (1, 1, 3), (1, 3, 9), (2, 0, 3), (2, 3, 10), (8, 0, 9), (8, 1, 10), (8, 4, 24), (3, 2, 7), (3, 3, 11), (9, 1, 11), (9, 4, 25), (10, 0, 11), (10, 4, 26), (24, 0, 25), (24, 1, 26), (24, 5, 56), (7, 3, 15), (11, 2, 15), (11, 4, 27), (25, 1, 27), (25, 5, 57), (26, 0, 27), (26, 5, 58), (56, 0, 57), (56, 1, 58), (56, 6, 120), (15, 4, 31), (27, 2, 31), (27, 5, 59), (57, 1, 59), (57, 6, 121), (58, 0, 59), (58, 6, 122), (120, 0, 121), (120, 1, 122), (31, 5, 63), (59, 2, 63), (59, 6, 123), (121, 1, 123), (122, 0, 123), (63, 6, 127), (123, 2, 127), (127, 7, 255), (255, 8, 511)] 511 (by kernel_rfl) (by kernel_rfl) ?_ ?_ ?_
  · simp (decide := true) (maxDischargeDepth := 200) only [go_sem]
  · simp (decide := true) (maxDischargeDepth := 200) only [go_sem, g1, r1]
  simp (decide := true) (maxDischargeDepth := 200) only [go_sem, hf1, hf2, Tryz.results36]
  refine any_dagF [(0, 8, 0, .sl (bL (p ++ [40] ++ prP a)).isEmpty 1 (bL (p ++ [40] ++ prP a)) (some 12)), (0, 0, 3, .ptr 3 0), (1, 8, 13, .sl (bL (p ++ [40] ++ prP a)).isEmpty 1 (bL (p ++ [40] ++ prP a)) (some 12)), (2, 0, 14, .ptr 3 1), (4, 0, 15, .x (.string (B o))), (8, 256, 16, .sl (bL (p ++ [40] ++ prP a ++ o)).isEmpty 1 (bL (p ++ [40] ++ prP a ++ o)) (some 16)), (16, 0, 17, .ptr 3 12), (32, 0, 18, .sl nl 13 [.agg [.x (.int .i64 k1), .x (.string op1), .x (.string nm1), .x (.int .i64 vk1), .x (.int .i64 vn1), .x (.string vs1), .x (.string cs1), .x (.int .i64 cc1), .x (.int .i64 cr1), .x (.string ts1), .x (.int .i64 tc1), .x (.int .i64 tr1), .sl nl1 sz1 (l1.map nodeV) none], .agg [.x (.int .i64 k2), .x (.string op2), .x (.string nm2), .x (.int .i64 vk2), .x (.int .i64 vn2), .x (.string vs2), .x (.string cs2), .x (.int .i64 cc2), .x (.int .i64 cr2), .x (.string ts2), .x (.int .i64 tc2), .x (.int .i64 tr2), .sl nl2 sz2 (l2.map nodeV) none]] none), (64, 0, 19, .ip [.x (.int .i64 k2), .x (.string op2), .x (.string nm2), .x (.int .i64 vk2), .x (.int .i64 vn2), .x (.string vs2), .x (.string cs2), .x (.int .i64 cc2), .x (.int .i64 cr2), .x (.string ts2), .x (.int .i64 tc2), .x (.int .i64 tr2), .sl nl2 sz2 (l2.map nodeV) none]), (128, 0, 20, .agg [.x (.int .i64 k2), .x (.string op2), .x (.string nm2), .x (.int .i64 vk2), .x (.int .i64 vn2), .x (.string vs2), .x (.string cs2), .x (.int .i64 cc2), .x (.int .i64 cr2), .x (.string ts2), .x (.int .i64 tc2), .x (.int .i64 tr2), .sl nl2 sz2 (l2.map nodeV) none]), (256, 512, 21, .sl (bL (p ++ [40] ++ prP a ++ o ++ prP b)).isEmpty 1 (bL (p ++ [40] ++ prP a ++ o ++ prP b)) (some 21)), (512, 0, 0, .sl (bL (p ++ [40] ++ prP a ++ o ++ prP b)).isEmpty 1 (bL (p ++ [40] ++ prP a ++ o ++ prP b)) (some 21))] [(3, [.x (.int .i64 5), .x (.string (B o)), .x (.string ⟨#[]⟩), .x (.int .i64 0), .x (.int .i64 0), .x (.string ⟨#[]⟩), .x (.string ⟨#[]⟩), .x (.int .i64 0), .x (.int .i64 0), .x (.string ⟨#[]⟩), .x (.int .i64 0), .x (.int .i64 0), .sl nl 13 [.agg [.x (.int .i64 k1), .x (.string op1), .x (.string nm1), .x (.int .i64 vk1), .x (.int .i64 vn1), .x (.string vs1), .x (.string cs1), .x (.int .i64 cc1), .x (.int .i64 cr1), .x (.string ts1), .x (.int .i64 tc1), .x (.int .i64 tr1), .sl nl1 sz1 (l1.map nodeV) none], .agg [.x (.int .i64 k2), .x (.string op2), .x (.string nm2), .x (.int .i64 vk2), .x (.int .i64 vn2), .x (.string vs2), .x (.string cs2), .x (.int .i64 cc2), .x (.int .i64 cr2), .x (.string ts2), .x (.int .i64 tc2), .x (.int .i64 tr2), .sl nl2 sz2 (l2.map nodeV) none]] none])] [(0, 0, 1), (0, 1, 2), (0, 4, 16), (1, 1, 3), (1, 4, 17), (2, 0, 3), (2, 2, 6), (2, 4, 18), (16, 0, 17), (16, 1, 18), (16, 5, 48), (3, 2, 7), (3, 4, 19), (17, 1, 19), (17, 5, 49), (6, 0, 7), (6, 4, 22), (18, 0, 19), (18, 2, 22), (18, 5, 50), (48, 0, 49), (48, 1, 50), (48, 6, 112), (7, 3, 15), (7, 4, 23), (19, 2, 23), (19, 5, 51), (49, 1, 51), (49, 6, 113), (22, 0, 23), (22, 5, 54), (50, 0, 51), (50, 2, 54), (50, 6, 114), (112, 0, 113), (112, 1, 114), (112, 7, 240), (15, 4, 31), (23, 3, 31), (23, 5, 55), (51, 2, 55), (51, 6, 115), (113, 1, 115), (113, 7, 241), (54, 0, 55), (54, 6, 118), (114, 0, 115), (114, 2, 118), (114, 7, 242), (240, 0, 241), (240, 1, 242), (31, 5, 63), (55, 3, 63), (55, 6, 119), (115, 2, 119), (115, 7, 243), (241, 1, 243), (118, 0, 119), (118, 7, 246), (242, 0, 243), (242, 2, 246), (63, 6, 127), (119, 3, 127), (119, 7, 247), (243, 2, 247), (246, 0, 247), (127, 7, 255), (247, 3, 255), (255, 8, 511), (511, 9, 1023)] 1023 (by kernel_rfl) (by kernel_rfl) ?_ ?_ ?_
  · simp (decide := true) (maxDischargeDepth := 200) only [go_sem]
  · simp (decide := true) (maxDischargeDepth := 200) only [go_sem, g2, r2]
  simp (decide := true) (maxDischargeDepth := 200) only [go_sem, g3, Tryz.results36]

set_option maxHeartbeats 16000000 in
set_option maxRecDepth 100000 in
theorem call_step' (n : Nat) (ha : FunPV 18 (FE encRN fun a => if cnt a.2 < n then GApp a else none)) : FunPV 37 (FE encRN fun a => if cnt a.2 < n + 1 then GAppK 6 a else none) := by
  refine fun_of_runO (E := envB [] (fun _ => false) [(18, (FE encRN fun a => if cnt a.2 < n then GApp a else none))] (fun _ => false) (fun _ => false)) (k := 2) (envOK_B _ _ _ _ _ trivial ⟨ha, trivial⟩) (fun _ _ => rfl) (by kernel_rfl) Tryz.func37 rfl (fun a w => Tryz.call37 a w) Tryz.ntmps37 (by kernel_rfl) (by decide) (by decide) ?_
  intro us r outs hF
  obtain ⟨⟨p, nd⟩, hus, hG⟩ := FE_out hF
  clear hF
  subst hus
  obtain ⟨hlt, hG⟩ := ite_on hG
  obtain ⟨hk, hG⟩ := ite_on hG
  obtain ⟨⟨hok, hpl⟩, hG⟩ := ite_on hG
  cases hG
  simp only at hlt hk hok hpl
  simp only [encRN]
  obtain ⟨t, e, h20, htl, hpr⟩ := call_form hok hk
  have hc : cnt nd = 1 + cntL nd.ks := cnt_eq nd
  have hkid : ∀ c ∈ nd.ks, okP c := fun c hc => okP_kid hok hc
  obtain ⟨k, op, nm, vk, vn, vs, cs, cc, cr, ts, tc, tr, l, nl, sz, hh, hl, hf, hs⟩ := node_cases nd
  rw [hh] at e
  rw [hl] at h20 hpr hc hkid
  obtain ⟨rfl, rfl, rfl, rfl, rfl, rfl, rfl, rfl, rfl, rfl, rfl, rfl⟩ := Hd.mk.inj (show (⟨6, ⟨#[]⟩, B t, 0, 0, ⟨#[]⟩, ⟨#[]⟩, 0, 0, ⟨#[]⟩, 0, 0⟩ : Hd) = ⟨k, op, nm, vk, vn, vs, cs, cc, cr, ts, tc, tr⟩ from e.symm)
  have hlen : ∀ i, (comK (l.take i)).length ≤ 402 * cntL (l.take i) + 20 := fun i => com_bound (fun c hc => hkid c (List.mem_of_mem_take hc)) (by rw [List.length_take]; omega)
  have hct : ∀ i c, l[i]? = some c → cntL (l.take i) + cnt c ≤ cntL l := fun i c h => cnt_take h
  have hce : ∀ i, cntL (l.take i) ≤ cntL l := cnt_takeL l
  have g1 : ∀ (st : St) (tok : Nat), growV (envB [] (fun _ => false) [(18, (FE encRN fun a => if cnt a.2 < n then GApp a else none))] (fun _ => false) (fun _ => false)) st (some 10) 5 (.sl (bL (p)).isEmpty 1 (bL (p)) (some tok)) (.sl false 1 (bL t) none) = some ⟨upd (strip tok (strip 10 st.t)) 10 (.sl (bL ((p) ++ (t))).isEmpty 1 (bL ((p) ++ (t))) (some 10)), stripB (envB [] (fun _ => false) [(18, (FE encRN fun a => if cnt a.2 < n then GApp a else none))] (fun _ => false) (fun _ => false)) tok (stripB (envB [] (fun _ => false) [(18, (FE encRN fun a => if cnt a.2 < n then GApp a else none))] (fun _ => false) (fun _ => false)) 10 st.b)⟩ := fun st tok => push_b (E := envB [] (fun _ => false) [(18, (FE encRN fun a => if cnt a.2 < n then GApp a else none))] (fun _ => false) (fun _ => false)) rfl (p) (t) (by omega) st 10 tok false none
  have g2 : ∀ (st : St) (tok : Nat), growV (envB [] (fun _ => false) [(18, (FE encRN fun a => if cnt a.2 < n then GApp a else none))] (fun _ => false) (fun _ => false)) st (some 13) 5 (.sl (bL (p ++ t)).isEmpty 1 (bL (p ++ t)) (some tok)) (.sl false 1 [.x (.int .u8 40)] none) = some ⟨upd (strip tok (strip 13 st.t)) 13 (.sl (bL ((p ++ t) ++ ([40]))).isEmpty 1 (bL ((p ++ t) ++ ([40]))) (some 13)), stripB (envB [] (fun _ => false) [(18, (FE encRN fun a => if cnt a.2 < n then GApp a else none))] (fun _ => false) (fun _ => false)) tok (stripB (envB [] (fun _ => false) [(18, (FE encRN fun a => if cnt a.2 < n then GApp a else none))] (fun _ => false) (fun _ => false)) 13 st.b)⟩ := fun st tok => push_b (E := envB [] (fun _ => false) [(18, (FE encRN fun a => if cnt a.2 < n then GApp a else none))] (fun _ => false) (fun _ => false)) rfl (p ++ t) ([40]) (by simp only [List.length_append, List.length_cons, List.length_nil]; omega) st 13 tok false none
  have g4 : ∀ (st : St) (tok : Nat), growV (envB [] (fun _ => false) [(18, (FE encRN fun a => if cnt a.2 < n then GApp a else none))] (fun _ => false) (fun _ => false)) st (some 33) 5 (.sl (bL (p ++ t ++ [40] ++ comK l)).isEmpty 1 (bL (p ++ t ++ [40] ++ comK l)) (some tok)) (.sl false 1 [.x (.int .u8 41)] none) = some ⟨upd (strip tok (strip 33 st.t)) 33 (.sl (bL (p ++ t ++ [40] ++ comK l ++ [41])).isEmpty 1 (bL (p ++ t ++ [40] ++ comK l ++ [41])) (some 33)), stripB (envB [] (fun _ => false) [(18, (FE encRN fun a => if cnt a.2 < n then GApp a else none))] (fun _ => false) (fun _ => false)) tok (stripB (envB [] (fun _ => false) [(18, (FE encRN fun a => if cnt a.2 < n then GApp a else none))] (fun _ => false) (fun _ => false)) 33 st.b)⟩ := fun st tok => push_b (E := envB [] (fun _ => false) [(18, (FE encRN fun a => if cnt a.2 < n then GApp a else none))] (fun _ => false) (fun _ => false)) rfl (p ++ t ++ [40] ++ comK l) [41] (by have := hlen l.length; rw [List.take_length] at this; simp only [List.length_append, List.length_cons, List.length_nil]; omega) st 33 tok false none
  have ef : p ++ prP nd = p ++ t ++ [40] ++ comK l ++ [41] := by rw [hpr]; simp
  simp only [rowR, ef]
  refine ⟨rfl, _, start_row 1 (bL p) [nodeV nd], ?_⟩
  clear hpr ef hok hh hl
  rw [hf]
  simp (decide := true) (maxDischargeDepth := 200) only [go_sem, g1, g2, Tryz.results37]
  refine loop_of (X := {q : Nat × Nat // q.1 ≤ l.length}) (fun q => [(0, .sl (bL (p ++ t ++ [40] ++ comK (l.take q.1.1))).isEmpty 1 (bL (p ++ t ++ [40] ++ comK (l.take q.1.1))) (some q.1.2)), (3, .ptr 3 0), (15, .sl nl sz (l.map nodeV) none), (16, .x (.int .i64 (l.length : Int))), (17, .x (.int .i64 ((q.1.1 : Nat) : Int)))]) (fun _ => [(3, [.x (.int .i64 6), .x (.string ⟨#[]⟩), .x (.string (B t)), .x (.int .i64 0), .x (.int .i64 0), .x (.string ⟨#[]⟩), .x (.string ⟨#[]⟩), .x (.int .i64 0), .x (.int .i64 0), .x (.string ⟨#[]⟩), .x (.int .i64 0), .x (.int .i64 0), .sl nl sz (l.map nodeV) none])]) (fun q => l.length - q.1.1) ⟨(0, 13), Nat.zero_le _⟩ (by simp (decide := true) only [go_sem, comK_nil, List.append_nil, List.length_map] <;> (repeat' first | rfl | constructor)) (by simp (decide := true) only [go_sem] <;> (repeat' first | rfl | constructor)) (fun ⟨⟨i, tok⟩, hi0⟩ => ?_)
  have hi0 : i ≤ l.length := hi0
  have hli := hlen i
  have hei := hce i
  by_cases hi : i < l.length
  · obtain ⟨c, hc1, hc2⟩ := kid_at hi
    obtain rfl := sz_kids hs hi
    have hmem : c ∈ l := List.mem_of_getElem? hc1
    have hpc := hkid c hmem
    have hcc := hct i c hc1
    have ht := take_snoc' hc1
    have c1 : decide ((i : Int) < (l.length : Int)) = true := decide_eq_true (by omega)
    have c2 : (0 : Int) ≤ (i : Int) := by omega
    have c4 := count_up (i := i) (by omega)
    by_cases h00 : i = 0
    · subst h00
      have d1 : decide ((0 : Int) < ((0 : Nat) : Int)) = false := by decide
      have e1 : p ++ t ++ [40] ++ comK (l.take 0) ++ prP c = p ++ t ++ [40] ++ comK (l.take (0 + 1)) := by
        rw [ht]
        simp only [List.take_zero, comK_nil, comK_one, List.append_nil]
      have r1 : (FE encRN fun a => if cnt a.2 < n then GApp a else none) [rowA 1 (bL (p ++ t ++ [40] ++ comK (l.take 0))), nodeV c] = some (rowR ((p ++ t ++ [40] ++ comK (l.take 0)) ++ prP c), []) := (FE_at encRN_inj _ (p ++ t ++ [40] ++ comK (l.take 0), c)).trans ((if_pos (by simp only; omega)).trans (GApp_of hpc (by simp only [List.length_append, List.length_cons, List.length_nil]; omega)))
      rw [e1] at r1
      simp only [rowR, List.take_zero] at r1
      obtain ⟨k3, op3, nm3, vk3, vn3, vs3, cs3, cc3, cr3, ts3, tc3, tr3, l3, nl3, sz3, hh3, hl3, hf3, hs3⟩ := node_cases c
      rw [hf3] at hc2 r1
      simp (decide := true) (maxDischargeDepth := 200) only [go_sem, List.length_map, c1, c2, c4, hc2, d1, r1, Tryz.results37]
      refine ⟨⟨(0 + 1, 29), by simp only; omega⟩, ?_, ?_, by simp only; omega⟩
      · simp (decide := true) only [go_sem]
      · simp (decide := true) only [go_sem]
    · have d1 : decide ((0 : Int) < (i : Int)) = true := decide_eq_true (by omega)
      have e1 : p ++ t ++ [40] ++ comK (l.take i) ++ [44] ++ prP c = p ++ t ++ [40] ++ comK (l.take (i + 1)) := by
        rw [ht, comK_snoc c (fun e => by rw [← List.length_eq_zero_iff, List.length_take] at e; omega)]
        simp only [List.append_assoc]
      have g3 : ∀ (st : St) (tok : Nat), growV (envB [] (fun _ => false) [(18, (FE encRN fun a => if cnt a.2 < n then GApp a else none))] (fun _ => false) (fun _ => false)) st (some 26) 5 (.sl (bL (p ++ t ++ [40] ++ comK (l.take i))).isEmpty 1 (bL (p ++ t ++ [40] ++ comK (l.take i))) (some tok)) (.sl false 1 [.x (.int .u8 44)] none) = some ⟨upd (strip tok (strip 26 st.t)) 26 (.sl (bL ((p ++ t ++ [40] ++ comK (l.take i)) ++ ([44]))).isEmpty 1 (bL ((p ++ t ++ [40] ++ comK (l.take i)) ++ ([44]))) (some 26)), stripB (envB [] (fun _ => false) [(18, (FE encRN fun a => if cnt a.2 < n then GApp a else none))] (fun _ => false) (fun _ => false)) tok (stripB (envB [] (fun _ => false) [(18, (FE encRN fun a => if cnt a.2 < n then GApp a else none))] (fun _ => false) (fun _ => false)) 26 st.b)⟩ := fun st tok => push_b (E := envB [] (fun _ => false) [(18, (FE encRN fun a => if cnt a.2 < n then GApp a else none))] (fun _ => false) (fun _ => false)) rfl (p ++ t ++ [40] ++ comK (l.take i)) ([44]) (by simp only [List.length_append, List.length_cons, List.length_nil]; omega) st 26 tok false none
      have r1 : (FE encRN fun a => if cnt a.2 < n then GApp a else none) [rowA 1 (bL (p ++ t ++ [40] ++ comK (l.take i) ++ [44])), nodeV c] = some (rowR ((p ++ t ++ [40] ++ comK (l.take i) ++ [44]) ++ prP c), []) := (FE_at encRN_inj _ (p ++ t ++ [40] ++ comK (l.take i) ++ [44], c)).trans ((if_pos (by simp only; omega)).trans (GApp_of hpc (by simp only [List.length_append, List.length_cons, List.length_nil]; omega)))
      rw [e1] at r1
      simp only [rowR] at r1
      obtain ⟨k3, op3, nm3, vk3, vn3, vs3, cs3, cc3, cr3, ts3, tc3, tr3, l3, nl3, sz3, hh3, hl3, hf3, hs3⟩ := node_cases c
      rw [hf3] at hc2 r1
      simp (decide := true) (maxDischargeDepth := 200) only [go_sem, List.length_map, c1, c2, c4, hc2, d1, g3, r1, Tryz.results37]
      refine ⟨⟨(i + 1, 29), by simp only; omega⟩, ?_, ?_, by simp only; omega⟩
      · simp (decide := true) only [go_sem]
      · simp (decide := true) only [go_sem]
  · have c1 : decide ((i : Int) < (l.length : Int)) = false := decide_eq_false (by omega)
    have e0 : l.take i = l := List.take_of_length_le (by omega)
    simp (decide := true) (maxDischargeDepth := 200) only [go_sem, List.length_map, c1, e0, g4, Tryz.results37]

end Go.Proofs.YteibnmlfipkmeaaGreatDoor

/- Formulas written: package printer and the reference, whole, as functions of plain data. -/
namespace Go.Proofs.YteibnmlfipkmeaaGreatDoor
open Go Go.RowKit
set_option linter.unusedSimpArgs false
theorem GRng_eq {nd : Nd} (h1 : rightC nd.hd.cs nd.hd.cc nd.hd.cr = true) (h2 : rightC nd.hd.ts nd.hd.tc nd.hd.tr = true) : FE encN GRng [nodeV nd] = some (.x (.string (B (nd.hd.cs.data.toList ++ 33 :: (plT nd.hd.cc nd.hd.cr ++ 58 :: plT nd.hd.tc nd.hd.tr))))) :=
  (FE_at encN_inj _ nd).trans (if_pos ⟨h1, h2⟩)
set_option maxHeartbeats 16000000 in
set_option maxRecDepth 100000 in
theorem app_step (n : Nat) (ha : FunPV 18 (FE encRN fun a => if cnt a.2 < n then GApp a else none)) : FunPV 18 (FE encRN fun a => if cnt a.2 < n + 1 then GApp a else none) := by
  refine fun_of_runO (E := envB [(33, FQShow), (34, FShow), (35, (FE encN GRng))] (fun _ => false) [(18, (FE encRN fun a => if cnt a.2 < n then GApp a else none)), (36, (FE encRN fun a => if cnt a.2 < n + 1 then GAppK 5 a else none)), (37, (FE encRN fun a => if cnt a.2 < n + 1 then GAppK 6 a else none))] (fun _ => false) (fun i => i == 9)) (k := 2) (envOK_B _ _ _ _ _ ⟨qshow_fun, show_fun, rng_fun, trivial⟩ ⟨ha, (pair_step' n ha), (call_step' n ha), trivial⟩) (fun _ _ => rfl) (by kernel_rfl) Tryz.func18 rfl (fun a w => Tryz.call18 a w) Tryz.ntmps18 (by kernel_rfl) (by decide) (by decide) ?_
  intro us r outs hF
  obtain ⟨⟨p, nd⟩, hus, hG⟩ := FE_out hF
  clear hF
  subst hus
  obtain ⟨hlt, hG⟩ := ite_on hG
  obtain ⟨⟨hok, hpl⟩, hG⟩ := ite_on hG
  cases hG
  simp only at hlt hok hpl
  simp only [encRN]
  have hlen := okP_len hok
  have hd := okP_hd hok
  have hpr := prP_eq nd
  have hpair : nd.hd.k = 5 → (FE encRN fun a => if cnt a.2 < n + 1 then GAppK 5 a else none) [rowA 1 (bL p), nodeV nd] = some (rowR (p ++ prP nd), []) := fun hk => (FE_at encRN_inj _ (p, nd)).trans ((if_pos hlt).trans ((if_pos hk).trans (GApp_of hok hpl)))
  have hcall : nd.hd.k = 6 → (FE encRN fun a => if cnt a.2 < n + 1 then GAppK 6 a else none) [rowA 1 (bL p), nodeV nd] = some (rowR (p ++ prP nd), []) := fun hk => (FE_at encRN_inj _ (p, nd)).trans ((if_pos hlt).trans ((if_pos hk).trans (GApp_of hok hpl)))
  have hrng := fun h1 h2 => GRng_eq (nd := nd) h1 h2
  simp only [rowR] at hpair hcall ⊢
  refine ⟨rfl, _, start_row 1 (bL p) [nodeV nd], ?_⟩
  obtain ⟨k, op, nm, vk, vn, vs, cs, cc, cr, ts, tc, tr, l, nl, sz, hh, hl, hf, hs⟩ := node_cases nd
  rw [hl] at hd
  have nil : l.length = 0 → l = [] := List.eq_nil_of_length_eq_zero
  rw [hh, hl] at hpr
  rw [hh] at hd hpair hcall hrng
  rw [hf] at hpair hcall hrng ⊢
  have hkid : ∀ c ∈ l, okP c := fun c hc => okP_kid hok (by rw [hl]; exact hc)
  have hcnt : cnt nd = 1 + cntL l := by rw [cnt_eq, hl]
  obtain ⟨hb, ho, hv⟩ := hd
  rcases hd_cases hb ho with ⟨v, e, h0, hn⟩ | ⟨s, e, h0, hn⟩ | ⟨v, e, h0, hn⟩ | ⟨s, c, r, e, h0, hn⟩ | ⟨s, c, r, s', c', r', e, h0, hn⟩ | ⟨e, hn⟩ | ⟨o, e, h0, hn⟩ | ⟨nm', e, h0, hn⟩ | ⟨e, hn⟩
  · obtain ⟨rfl, rfl, rfl, rfl, rfl, rfl, rfl, rfl, rfl, rfl, rfl, rfl⟩ := Hd.mk.inj (show (⟨1, ⟨#[]⟩, ⟨#[]⟩, 1, v, ⟨#[]⟩, ⟨#[]⟩, 0, 0, ⟨#[]⟩, 0, 0⟩ : Hd) = ⟨k, op, nm, vk, vn, vs, cs, cc, cr, ts, tc, tr⟩ from e.symm)
    obtain rfl := nil hn
    have e1 := FQShow_eq (k := 1) (n := v) (s := ⟨#[]⟩) (.inl ⟨rfl, .inl ⟨rfl, h0, hv⟩⟩)
    have e2 : showQ 1 v ⟨#[]⟩ = B (prP nd) := by rw [hpr]; rfl
    rw [e2] at e1
    have g1 : ∀ (st : St) (tok : Nat), growV (envB [(33, FQShow), (34, FShow), (35, (FE encN GRng))] (fun _ => false) [(18, (FE encRN fun a => if cnt a.2 < n then GApp a else none)), (36, (FE encRN fun a => if cnt a.2 < n + 1 then GAppK 5 a else none)), (37, (FE encRN fun a => if cnt a.2 < n + 1 then GAppK 6 a else none))] (fun _ => false) (fun i => i == 9)) st (some 13) 5 (.sl (bL (p)).isEmpty 1 (bL (p)) (some tok)) (.sl false 1 (bL (prP nd)) none) = some ⟨upd (strip tok (strip 13 st.t)) 13 (.sl (bL ((p) ++ (prP nd))).isEmpty 1 (bL ((p) ++ (prP nd))) (some 13)), stripB (envB [(33, FQShow), (34, FShow), (35, (FE encN GRng))] (fun _ => false) [(18, (FE encRN fun a => if cnt a.2 < n then GApp a else none)), (36, (FE encRN fun a => if cnt a.2 < n + 1 then GAppK 5 a else none)), (37, (FE encRN fun a => if cnt a.2 < n + 1 then GAppK 6 a else none))] (fun _ => false) (fun i => i == 9)) tok (stripB (envB [(33, FQShow), (34, FShow), (35, (FE encN GRng))] (fun _ => false) [(18, (FE encRN fun a => if cnt a.2 < n then GApp a else none)), (36, (FE encRN fun a => if cnt a.2 < n + 1 then GAppK 5 a else none)), (37, (FE encRN fun a => if cnt a.2 < n + 1 then GAppK 6 a else none))] (fun _ => false) (fun i => i == 9)) 13 st.b)⟩ := fun st tok => push_b (E := envB [(33, FQShow), (34, FShow), (35, (FE encN GRng))] (fun _ => false) [(18, (FE encRN fun a => if cnt a.2 < n then GApp a else none)), (36, (FE encRN fun a => if cnt a.2 < n + 1 then GAppK 5 a else none)), (37, (FE encRN fun a => if cnt a.2 < n + 1 then GAppK 6 a else none))] (fun _ => false) (fun i => i == 9)) rfl (p) (prP nd) (by omega) st 13 tok false none
    simp (decide := true) (maxDischargeDepth := 200) only [go_sem, e1, g1, Tryz.results18]
  · obtain ⟨rfl, rfl, rfl, rfl, rfl, rfl, rfl, rfl, rfl, rfl, rfl, rfl⟩ := Hd.mk.inj (show (⟨1, ⟨#[]⟩, ⟨#[]⟩, 2, 0, s, ⟨#[]⟩, 0, 0, ⟨#[]⟩, 0, 0⟩ : Hd) = ⟨k, op, nm, vk, vn, vs, cs, cc, cr, ts, tc, tr⟩ from e.symm)
    obtain rfl := nil hn
    have e1 := FQShow_eq (k := 2) (n := 0) (s := s) (.inr ⟨rfl, by omega⟩)
    have e2 : showQ 2 0 s = B (prP nd) := by rw [hpr]; rfl
    rw [e2] at e1
    have g1 : ∀ (st : St) (tok : Nat), growV (envB [(33, FQShow), (34, FShow), (35, (FE encN GRng))] (fun _ => false) [(18, (FE encRN fun a => if cnt a.2 < n then GApp a else none)), (36, (FE encRN fun a => if cnt a.2 < n + 1 then GAppK 5 a else none)), (37, (FE encRN fun a => if cnt a.2 < n + 1 then GAppK 6 a else none))] (fun _ => false) (fun i => i == 9)) st (some 13) 5 (.sl (bL (p)).isEmpty 1 (bL (p)) (some tok)) (.sl false 1 (bL (prP nd)) none) = some ⟨upd (strip tok (strip 13 st.t)) 13 (.sl (bL ((p) ++ (prP nd))).isEmpty 1 (bL ((p) ++ (prP nd))) (some 13)), stripB (envB [(33, FQShow), (34, FShow), (35, (FE encN GRng))] (fun _ => false) [(18, (FE encRN fun a => if cnt a.2 < n then GApp a else none)), (36, (FE encRN fun a => if cnt a.2 < n + 1 then GAppK 5 a else none)), (37, (FE encRN fun a => if cnt a.2 < n + 1 then GAppK 6 a else none))] (fun _ => false) (fun i => i == 9)) tok (stripB (envB [(33, FQShow), (34, FShow), (35, (FE encN GRng))] (fun _ => false) [(18, (FE encRN fun a => if cnt a.2 < n then GApp a else none)), (36, (FE encRN fun a => if cnt a.2 < n + 1 then GAppK 5 a else none)), (37, (FE encRN fun a => if cnt a.2 < n + 1 then GAppK 6 a else none))] (fun _ => false) (fun i => i == 9)) 13 st.b)⟩ := fun st tok => push_b (E := envB [(33, FQShow), (34, FShow), (35, (FE encN GRng))] (fun _ => false) [(18, (FE encRN fun a => if cnt a.2 < n then GApp a else none)), (36, (FE encRN fun a => if cnt a.2 < n + 1 then GAppK 5 a else none)), (37, (FE encRN fun a => if cnt a.2 < n + 1 then GAppK 6 a else none))] (fun _ => false) (fun i => i == 9)) rfl (p) (prP nd) (by omega) st 13 tok false none
    simp (decide := true) (maxDischargeDepth := 200) only [go_sem, e1, g1, Tryz.results18]
  · obtain ⟨rfl, rfl, rfl, rfl, rfl, rfl, rfl, rfl, rfl, rfl, rfl, rfl⟩ := Hd.mk.inj (show (⟨1, ⟨#[]⟩, ⟨#[]⟩, 3, v, ⟨#[]⟩, ⟨#[]⟩, 0, 0, ⟨#[]⟩, 0, 0⟩ : Hd) = ⟨k, op, nm, vk, vn, vs, cs, cc, cr, ts, tc, tr⟩ from e.symm)
    obtain rfl := nil hn
    have e1 := FQShow_eq (k := 3) (n := v) (s := ⟨#[]⟩) (.inl ⟨rfl, .inr ⟨rfl, h0⟩⟩)
    have e2 : showQ 3 v ⟨#[]⟩ = B (prP nd) := by
      rw [hpr]
      rcases h0 with rfl | rfl <;> rfl
    rw [e2] at e1
    have g1 : ∀ (st : St) (tok : Nat), growV (envB [(33, FQShow), (34, FShow), (35, (FE encN GRng))] (fun _ => false) [(18, (FE encRN fun a => if cnt a.2 < n then GApp a else none)), (36, (FE encRN fun a => if cnt a.2 < n + 1 then GAppK 5 a else none)), (37, (FE encRN fun a => if cnt a.2 < n + 1 then GAppK 6 a else none))] (fun _ => false) (fun i => i == 9)) st (some 13) 5 (.sl (bL (p)).isEmpty 1 (bL (p)) (some tok)) (.sl false 1 (bL (prP nd)) none) = some ⟨upd (strip tok (strip 13 st.t)) 13 (.sl (bL ((p) ++ (prP nd))).isEmpty 1 (bL ((p) ++ (prP nd))) (some 13)), stripB (envB [(33, FQShow), (34, FShow), (35, (FE encN GRng))] (fun _ => false) [(18, (FE encRN fun a => if cnt a.2 < n then GApp a else none)), (36, (FE encRN fun a => if cnt a.2 < n + 1 then GAppK 5 a else none)), (37, (FE encRN fun a => if cnt a.2 < n + 1 then GAppK 6 a else none))] (fun _ => false) (fun i => i == 9)) tok (stripB (envB [(33, FQShow), (34, FShow), (35, (FE encN GRng))] (fun _ => false) [(18, (FE encRN fun a => if cnt a.2 < n then GApp a else none)), (36, (FE encRN fun a => if cnt a.2 < n + 1 then GAppK 5 a else none)), (37, (FE encRN fun a => if cnt a.2 < n + 1 then GAppK 6 a else none))] (fun _ => false) (fun i => i == 9)) 13 st.b)⟩ := fun st tok => push_b (E := envB [(33, FQShow), (34, FShow), (35, (FE encN GRng))] (fun _ => false) [(18, (FE encRN fun a => if cnt a.2 < n then GApp a else none)), (36, (FE encRN fun a => if cnt a.2 < n + 1 then GAppK 5 a else none)), (37, (FE encRN fun a => if cnt a.2 < n + 1 then GAppK 6 a else none))] (fun _ => false) (fun i => i == 9)) rfl (p) (prP nd) (by omega) st 13 tok false none
    simp (decide := true) (maxDischargeDepth := 200) only [go_sem, e1, g1, Tryz.results18]
  · obtain ⟨rfl, rfl, rfl, rfl, rfl, rfl, rfl, rfl, rfl, rfl, rfl, rfl⟩ := Hd.mk.inj (show (⟨2, ⟨#[]⟩, ⟨#[]⟩, 0, 0, ⟨#[]⟩, s, c, r, ⟨#[]⟩, 0, 0⟩ : Hd) = ⟨k, op, nm, vk, vn, vs, cs, cc, cr, ts, tc, tr⟩ from e.symm)
    obtain rfl := nil hn
    have e1 := show_cell h0
    have e2 : B (s.data.toList ++ 33 :: plT c r) = B (prP nd) := by rw [hpr]; rfl
    rw [e2] at e1
    have g1 : ∀ (st : St) (tok : Nat), growV (envB [(33, FQShow), (34, FShow), (35, (FE encN GRng))] (fun _ => false) [(18, (FE encRN fun a => if cnt a.2 < n then GApp a else none)), (36, (FE encRN fun a => if cnt a.2 < n + 1 then GAppK 5 a else none)), (37, (FE encRN fun a => if cnt a.2 < n + 1 then GAppK 6 a else none))] (fun _ => false) (fun i => i == 9)) st (some 20) 5 (.sl (bL (p)).isEmpty 1 (bL (p)) (some tok)) (.sl false 1 (bL (prP nd)) none) = some ⟨upd (strip tok (strip 20 st.t)) 20 (.sl (bL ((p) ++ (prP nd))).isEmpty 1 (bL ((p) ++ (prP nd))) (some 20)), stripB (envB [(33, FQShow), (34, FShow), (35, (FE encN GRng))] (fun _ => false) [(18, (FE encRN fun a => if cnt a.2 < n then GApp a else none)), (36, (FE encRN fun a => if cnt a.2 < n + 1 then GAppK 5 a else none)), (37, (FE encRN fun a => if cnt a.2 < n + 1 then GAppK 6 a else none))] (fun _ => false) (fun i => i == 9)) tok (stripB (envB [(33, FQShow), (34, FShow), (35, (FE encN GRng))] (fun _ => false) [(18, (FE encRN fun a => if cnt a.2 < n then GApp a else none)), (36, (FE encRN fun a => if cnt a.2 < n + 1 then GAppK 5 a else none)), (37, (FE encRN fun a => if cnt a.2 < n + 1 then GAppK 6 a else none))] (fun _ => false) (fun i => i == 9)) 20 st.b)⟩ := fun st tok => push_b (E := envB [(33, FQShow), (34, FShow), (35, (FE encN GRng))] (fun _ => false) [(18, (FE encRN fun a => if cnt a.2 < n then GApp a else none)), (36, (FE encRN fun a => if cnt a.2 < n + 1 then GAppK 5 a else none)), (37, (FE encRN fun a => if cnt a.2 < n + 1 then GAppK 6 a else none))] (fun _ => false) (fun i => i == 9)) rfl (p) (prP nd) (by omega) st 20 tok false none
    simp (decide := true) (maxDischargeDepth := 200) only [go_sem, FShow, e1, g1, Tryz.results18]
  · obtain ⟨rfl, rfl, rfl, rfl, rfl, rfl, rfl, rfl, rfl, rfl, rfl, rfl⟩ := Hd.mk.inj (show (⟨3, ⟨#[]⟩, ⟨#[]⟩, 0, 0, ⟨#[]⟩, s, c, r, s', c', r'⟩ : Hd) = ⟨k, op, nm, vk, vn, vs, cs, cc, cr, ts, tc, tr⟩ from e.symm)
    obtain rfl := nil hn
    obtain ⟨rfl, h1, h2⟩ := okA_sheet h0
    have e1 := hrng h1 h2
    simp only [List.map_nil] at e1
    have e2 : B (s.data.toList ++ 33 :: (plT c r ++ 58 :: plT c' r')) = B (prP nd) := by rw [hpr]; rfl
    rw [e2] at e1
    have g1 : ∀ (st : St) (tok : Nat), growV (envB [(33, FQShow), (34, FShow), (35, (FE encN GRng))] (fun _ => false) [(18, (FE encRN fun a => if cnt a.2 < n then GApp a else none)), (36, (FE encRN fun a => if cnt a.2 < n + 1 then GAppK 5 a else none)), (37, (FE encRN fun a => if cnt a.2 < n + 1 then GAppK 6 a else none))] (fun _ => false) (fun i => i == 9)) st (some 26) 5 (.sl (bL (p)).isEmpty 1 (bL (p)) (some tok)) (.sl false 1 (bL (prP nd)) none) = some ⟨upd (strip tok (strip 26 st.t)) 26 (.sl (bL ((p) ++ (prP nd))).isEmpty 1 (bL ((p) ++ (prP nd))) (some 26)), stripB (envB [(33, FQShow), (34, FShow), (35, (FE encN GRng))] (fun _ => false) [(18, (FE encRN fun a => if cnt a.2 < n then GApp a else none)), (36, (FE encRN fun a => if cnt a.2 < n + 1 then GAppK 5 a else none)), (37, (FE encRN fun a => if cnt a.2 < n + 1 then GAppK 6 a else none))] (fun _ => false) (fun i => i == 9)) tok (stripB (envB [(33, FQShow), (34, FShow), (35, (FE encN GRng))] (fun _ => false) [(18, (FE encRN fun a => if cnt a.2 < n then GApp a else none)), (36, (FE encRN fun a => if cnt a.2 < n + 1 then GAppK 5 a else none)), (37, (FE encRN fun a => if cnt a.2 < n + 1 then GAppK 6 a else none))] (fun _ => false) (fun i => i == 9)) 26 st.b)⟩ := fun st tok => push_b (E := envB [(33, FQShow), (34, FShow), (35, (FE encN GRng))] (fun _ => false) [(18, (FE encRN fun a => if cnt a.2 < n then GApp a else none)), (36, (FE encRN fun a => if cnt a.2 < n + 1 then GAppK 5 a else none)), (37, (FE encRN fun a => if cnt a.2 < n + 1 then GAppK 6 a else none))] (fun _ => false) (fun i => i == 9)) rfl (p) (prP nd) (by omega) st 26 tok false none
    simp (decide := true) (maxDischargeDepth := 200) only [go_sem, e1, g1, Tryz.results18]
  · obtain ⟨rfl, rfl, rfl, rfl, rfl, rfl, rfl, rfl, rfl, rfl, rfl, rfl⟩ := Hd.mk.inj (show (⟨4, ⟨#[45]⟩, ⟨#[]⟩, 0, 0, ⟨#[]⟩, ⟨#[]⟩, 0, 0, ⟨#[]⟩, 0, 0⟩ : Hd) = ⟨k, op, nm, vk, vn, vs, cs, cc, cr, ts, tc, tr⟩ from e.symm)
    obtain ⟨a, rfl⟩ := List.length_eq_one_iff.1 hn
    obtain rfl := hs (by simp)
    have hpa := hkid a (by simp)
    have hca : cnt nd = 1 + (cnt a + 0) := hcnt
    have hal := okP_len hpa
    have ef : p ++ prP nd = p ++ [45] ++ prP a := by
      rw [hpr]
      show p ++ 45 :: prP a = _
      simp
    have r1 : (FE encRN fun a => if cnt a.2 < n then GApp a else none) [rowA 1 (bL (p ++ [45])), nodeV a] = some (rowR ((p ++ [45]) ++ prP a), []) := (FE_at encRN_inj _ (p ++ [45], a)).trans ((if_pos (by simp only; omega)).trans (GApp_of hpa (by simp only [List.length_append, List.length_cons, List.length_nil]; omega)))
    simp only [rowR] at r1
    have g1 : ∀ (st : St) (tok : Nat), growV (envB [(33, FQShow), (34, FShow), (35, (FE encN GRng))] (fun _ => false) [(18, (FE encRN fun a => if cnt a.2 < n then GApp a else none)), (36, (FE encRN fun a => if cnt a.2 < n + 1 then GAppK 5 a else none)), (37, (FE encRN fun a => if cnt a.2 < n + 1 then GAppK 6 a else none))] (fun _ => false) (fun i => i == 9)) st (some 32) 5 (.sl (bL (p)).isEmpty 1 (bL (p)) (some tok)) (.sl false 1 (bL [45]) none) = some ⟨upd (strip tok (strip 32 st.t)) 32 (.sl (bL ((p) ++ ([45]))).isEmpty 1 (bL ((p) ++ ([45]))) (some 32)), stripB (envB [(33, FQShow), (34, FShow), (35, (FE encN GRng))] (fun _ => false) [(18, (FE encRN fun a => if cnt a.2 < n then GApp a else none)), (36, (FE encRN fun a => if cnt a.2 < n + 1 then GAppK 5 a else none)), (37, (FE encRN fun a => if cnt a.2 < n + 1 then GAppK 6 a else none))] (fun _ => false) (fun i => i == 9)) tok (stripB (envB [(33, FQShow), (34, FShow), (35, (FE encN GRng))] (fun _ => false) [(18, (FE encRN fun a => if cnt a.2 < n then GApp a else none)), (36, (FE encRN fun a => if cnt a.2 < n + 1 then GAppK 5 a else none)), (37, (FE encRN fun a => if cnt a.2 < n + 1 then GAppK 6 a else none))] (fun _ => false) (fun i => i == 9)) 32 st.b)⟩ := fun st tok => push_b (E := envB [(33, FQShow), (34, FShow), (35, (FE encN GRng))] (fun _ => false) [(18, (FE encRN fun a => if cnt a.2 < n then GApp a else none)), (36, (FE encRN fun a => if cnt a.2 < n + 1 then GAppK 5 a else none)), (37, (FE encRN fun a => if cnt a.2 < n + 1 then GAppK 6 a else none))] (fun _ => false) (fun i => i == 9)) rfl (p) ([45]) (by simp only [List.length_cons, List.length_nil]; omega) st 32 tok false none
    have b1 : bytesV ⟨#[45]⟩ = bL [45] := rfl
    rw [ef]
    clear hpair hcall hrng hpr hkid
    obtain ⟨k1, op1, nm1, vk1, vn1, vs1, cs1, cc1, cr1, ts1, tc1, tr1, l1, nl1, sz1, hh1, hl1, hf1, hs1⟩ := node_cases a
    rw [hf1] at r1
    simp (decide := true) (maxDischargeDepth := 200) only [go_sem, hf1, Tryz.results18]
    refine any_dagF [(0, 8, 0, .sl (bL (p)).isEmpty 1 (bL (p)) (some 1000)), (0, 0, 3, .ptr 3 0), (1, 8, 29, .sl (bL (p)).isEmpty 1 (bL (p)) (some 1000)), (2, 0, 30, .ptr 3 1), (4, 0, 31, .x (.string ⟨#[45]⟩)), (8, 256, 32, .sl (bL (p ++ [45])).isEmpty 1 (bL (p ++ [45])) (some 32)), (16, 0, 33, .ptr 3 12), (32, 0, 34, .sl nl 13 [.agg [.x (.int .i64 k1), .x (.string op1), .x (.string nm1), .x (.int .i64 vk1), .x (.int .i64 vn1), .x (.string vs1), .x (.string cs1), .x (.int .i64 cc1), .x (.int .i64 cr1), .x (.string ts1), .x (.int .i64 tc1), .x (.int .i64 tr1), .sl nl1 sz1 (l1.map nodeV) none]] none), (64, 0, 35, .ip [.x (.int .i64 k1), .x (.string op1), .x (.string nm1), .x (.int .i64 vk1), .x (.int .i64 vn1), .x (.string vs1), .x (.string cs1), .x (.int .i64 cc1), .x (.int .i64 cr1), .x (.string ts1), .x (.int .i64 tc1), .x (.int .i64 tr1), .sl nl1 sz1 (l1.map nodeV) none]), (128, 0, 36, .agg [.x (.int .i64 k1), .x (.string op1), .x (.string nm1), .x (.int .i64 vk1), .x (.int .i64 vn1), .x (.string vs1), .x (.string cs1), .x (.int .i64 cc1), .x (.int .i64 cr1), .x (.string ts1), .x (.int .i64 tc1), .x (.int .i64 tr1), .sl nl1 sz1 (l1.map nodeV) none]), (256, 512, 37, .sl (bL (p ++ [45] ++ prP a)).isEmpty 1 (bL (p ++ [45] ++ prP a)) (some 37)), (512, 0, 4, .sl (bL (p ++ [45] ++ prP a)).isEmpty 1 (bL (p ++ [45] ++ prP a)) (some 37))] [(3, [.x (.int .i64 4), .x (.string ⟨#[45]⟩), .x (.string ⟨#[]⟩), .x (.int .i64 0), .x (.int .i64 0), .x (.string ⟨#[]⟩), .x (.string ⟨#[]⟩), .x (.int .i64 0), .x (.int .i64 0), .x (.string ⟨#[]⟩), .x (.int .i64 0), .x (.int .i64 0), .sl nl 13 [.agg [.x (.int .i64 k1), .x (.string op1), .x (.string nm1), .x (.int .i64 vk1), .x (.int .i64 vn1), .x (.string vs1), .x (.string cs1), .x (.int .i64 cc1), .x (.int .i64 cr1), .x (.string ts1), .x (.int .i64 tc1), .x (.int .i64 tr1), .sl nl1 sz1 (l1.map nodeV) none]] none])] [(0, 0, 1), (0, 1, 2), (0, 4, 16), (1, 1, 3), (1, 4, 17), (2, 0, 3), (2, 2, 6), (2, 4, 18), (16, 0, 17), (16, 1, 18), (16, 5, 48), (3, 2, 7), (3, 4, 19), (17, 1, 19), (17, 5, 49), (6, 0, 7), (6, 4, 22), (18, 0, 19), (18, 2, 22), (18, 5, 50), (48, 0, 49), (48, 1, 50), (48, 6, 112), (7, 3, 15), (7, 4, 23), (19, 2, 23), (19, 5, 51), (49, 1, 51), (49, 6, 113), (22, 0, 23), (22, 5, 54), (50, 0, 51), (50, 2, 54), (50, 6, 114), (112, 0, 113), (112, 1, 114), (112, 7, 240), (15, 4, 31), (23, 3, 31), (23, 5, 55), (51, 2, 55), (51, 6, 115), (113, 1, 115), (113, 7, 241), (54, 0, 55), (54, 6, 118), (114, 0, 115), (114, 2, 118), (114, 7, 242), (240, 0, 241), (240, 1, 242), (31, 5, 63), (55, 3, 63), (55, 6, 119), (115, 2, 119), (115, 7, 243), (241, 1, 243), (118, 0, 119), (118, 7, 246), (242, 0, 243), (242, 2, 246), (63, 6, 127), (119, 3, 127), (119, 7, 247), (243, 2, 247), (246, 0, 247), (127, 7, 255), (247, 3, 255), (255, 8, 511), (511, 9, 1023)] 1023 (by kernel_rfl) (by kernel_rfl) ?_ ?_ ?_
    · simp (decide := true) (maxDischargeDepth := 200) only [go_sem]
    · simp (decide := true) (maxDischargeDepth := 200) only [go_sem, b1, g1, r1]
    simp (decide := true) (maxDischargeDepth := 200) only [go_sem, Tryz.results18]
  · obtain ⟨rfl, rfl, rfl, rfl, rfl, rfl, rfl, rfl, rfl, rfl, rfl, rfl⟩ := Hd.mk.inj (show (⟨5, o, ⟨#[]⟩, 0, 0, ⟨#[]⟩, ⟨#[]⟩, 0, 0, ⟨#[]⟩, 0, 0⟩ : Hd) = ⟨k, op, nm, vk, vn, vs, cs, cc, cr, ts, tc, tr⟩ from e.symm)
    have e1 := hpair rfl
    simp (decide := true) (maxDischargeDepth := 200) only [go_sem, e1, Tryz.results18]
  · obtain ⟨rfl, rfl, rfl, rfl, rfl, rfl, rfl, rfl, rfl, rfl, rfl, rfl⟩ := Hd.mk.inj (show (⟨6, ⟨#[]⟩, nm', 0, 0, ⟨#[]⟩, ⟨#[]⟩, 0, 0, ⟨#[]⟩, 0, 0⟩ : Hd) = ⟨k, op, nm, vk, vn, vs, cs, cc, cr, ts, tc, tr⟩ from e.symm)
    have e1 := hcall rfl
    simp (decide := true) (maxDischargeDepth := 200) only [go_sem, e1, Tryz.results18]
  · obtain ⟨rfl, rfl, rfl, rfl, rfl, rfl, rfl, rfl, rfl, rfl, rfl, rfl⟩ := Hd.mk.inj (show (⟨7, ⟨#[]⟩, ⟨#[]⟩, 0, 0, ⟨#[]⟩, ⟨#[]⟩, 0, 0, ⟨#[]⟩, 0, 0⟩ : Hd) = ⟨k, op, nm, vk, vn, vs, cs, cc, cr, ts, tc, tr⟩ from e.symm)
    obtain rfl := nil hn
    have e2 : prP nd = [82, 69, 70, 33] := by rw [hpr]; rfl
    have b1 : bytesV ⟨#[82, 69, 70, 33]⟩ = bL [82, 69, 70, 33] := rfl
    rw [e2]
    have g1 : ∀ (st : St) (tok : Nat), growV (envB [(33, FQShow), (34, FShow), (35, (FE encN GRng))] (fun _ => false) [(18, (FE encRN fun a => if cnt a.2 < n then GApp a else none)), (36, (FE encRN fun a => if cnt a.2 < n + 1 then GAppK 5 a else none)), (37, (FE encRN fun a => if cnt a.2 < n + 1 then GAppK 6 a else none))] (fun _ => false) (fun i => i == 9)) st (some 51) 5 (.sl (bL (p)).isEmpty 1 (bL (p)) (some tok)) (.sl false 1 (bL [82, 69, 70, 33]) none) = some ⟨upd (strip tok (strip 51 st.t)) 51 (.sl (bL ((p) ++ ([82, 69, 70, 33]))).isEmpty 1 (bL ((p) ++ ([82, 69, 70, 33]))) (some 51)), stripB (envB [(33, FQShow), (34, FShow), (35, (FE encN GRng))] (fun _ => false) [(18, (FE encRN fun a => if cnt a.2 < n then GApp a else none)), (36, (FE encRN fun a => if cnt a.2 < n + 1 then GAppK 5 a else none)), (37, (FE encRN fun a => if cnt a.2 < n + 1 then GAppK 6 a else none))] (fun _ => false) (fun i => i == 9)) tok (stripB (envB [(33, FQShow), (34, FShow), (35, (FE encN GRng))] (fun _ => false) [(18, (FE encRN fun a => if cnt a.2 < n then GApp a else none)), (36, (FE encRN fun a => if cnt a.2 < n + 1 then GAppK 5 a else none)), (37, (FE encRN fun a => if cnt a.2 < n + 1 then GAppK 6 a else none))] (fun _ => false) (fun i => i == 9)) 51 st.b)⟩ := fun st tok => push_b (E := envB [(33, FQShow), (34, FShow), (35, (FE encN GRng))] (fun _ => false) [(18, (FE encRN fun a => if cnt a.2 < n then GApp a else none)), (36, (FE encRN fun a => if cnt a.2 < n + 1 then GAppK 5 a else none)), (37, (FE encRN fun a => if cnt a.2 < n + 1 then GAppK 6 a else none))] (fun _ => false) (fun i => i == 9)) rfl (p) ([82, 69, 70, 33]) (by simp only [List.length_cons, List.length_nil]; omega) st 51 tok false none
    simp (decide := true) (maxDischargeDepth := 200) only [go_sem, b1, g1, Tryz.results18]

theorem app_fun : FunPV 18 (FE encRN GApp) := fun_recP (fun a => cnt a.2) (fun a w => Tryz.call18 a w) (fun n ih => app_step n ih)
open Classical in
/-- What Print tells. -/
noncomputable def GPr (nd : Nd) : Option V := if cnt nd ≤ 400 ∧ smN nd then some (.x (.string (if rwN 20 nd = true then B (prP nd) else ⟨#[]⟩))) else none
theorem rw_okP {nd : Nd} (h : rwN 20 nd = true) (h4 : cnt nd ≤ 400) (hs : smN nd) : okP nd := by
  rw [rw_right] at h
  simp only [Bool.and_eq_true] at h
  exact ⟨h.2, hs, h4⟩
theorem FPr_eq {nd : Nd} (h4 : cnt nd ≤ 400) (hs : smN nd) : FE encN GPr [nodeV nd] = some (.x (.string (if rwN 20 nd = true then B (prP nd) else ⟨#[]⟩))) := (FE_at encN_inj _ nd).trans (if_pos ⟨h4, hs⟩)
set_option maxHeartbeats 4000000 in
set_option maxRecDepth 100000 in
theorem print_fun : FunV 8 (FE encN GPr) := by
  refine fun_of_run (E := envP [(17, FRightT)] (fun _ => false) [(18, (FE encRN GApp))]) (k := 1) (envOK_P _ _ _ ⟨rightt_fun, trivial⟩ ⟨app_fun, trivial⟩) (by kernel_rfl) Tryz.func8 rfl (fun a w => Tryz.call8 a w) Tryz.ntmps8 (by kernel_rfl) (by decide) (by decide) ?_
  intro us r hF hdat
  obtain ⟨nd, hus, hG⟩ := FE_out hF
  clear hF
  subst hus
  have hF := hG
  clear hG
  unfold GPr at hF
  obtain ⟨⟨h4, hs⟩, hF⟩ := ite_on hF
  cases hF
  clear hdat
  simp only [encN]
  have e1 := FRightT_eq nd
  have e2 : rwN 20 nd = true → FE encRN GApp [rowA 1 [], nodeV nd] = some (rowR (prP nd), []) := fun h => (FE_at encRN_inj _ (([] : List UInt8), nd)).trans (GApp_of (rw_okP h h4 hs) (by simp only [List.length_nil]; omega))
  simp only [rowR] at e2
  obtain ⟨kd, opd, nmd, vkd, vnd, vsd, csd, ccd, crd, tsd, tcd, trd, nld, szd, esd, hd'⟩ := nd_is nd
  rw [hd'] at e1 e2 ⊢
  refine ⟨rfl, ?_⟩
  cases hr : rwN 20 nd
  · rw [hr] at e1
    simp (decide := true) (maxDischargeDepth := 200) only [go_sem, e1, Tryz.results8]
  · rw [hr] at e1
    have e2 := e2 hr
    have e3 := bytesOf_bL (prP nd)
    have e4 : (⟨(prP nd).toArray⟩ : ByteArray) = B (prP nd) := rfl
    simp (decide := true) (maxDischargeDepth := 200) only [go_sem, e1, e2, e3, e4, Tryz.results8]

set_option maxHeartbeats 4000000 in
set_option maxRecDepth 100000 in
theorem rprintw_fun : FunV 9 (FE encN GPr) := by
  refine fun_of_run (E := envOf [(10, (FE encN GRightN)), (19, (FE encN GPrint))]) (k := 1) (envOK_of _ ⟨rightnode_fun, rprint_fun, trivial⟩) (by kernel_rfl) Tryz.func9 rfl (fun a w => Tryz.call9 a w) Tryz.ntmps9 (by kernel_rfl) (by decide) (by decide) ?_
  intro us r hF hdat
  obtain ⟨nd, hus, hG⟩ := FE_out hF
  clear hF
  subst hus
  have hF := hG
  clear hG
  unfold GPr at hF
  obtain ⟨⟨h4, hs⟩, hF⟩ := ite_on hF
  cases hF
  clear hdat
  simp only [encN]
  have e1 := FRightN_eq h4
  have e2 : rwN 20 nd = true → FE encN GPrint [nodeV nd] = some (.x (.string (B (prP nd)))) := fun h => (FE_at encN_inj _ nd).trans (GPrint_of (rw_okP h h4 hs))
  obtain ⟨kd, opd, nmd, vkd, vnd, vsd, csd, ccd, crd, tsd, tcd, trd, nld, szd, esd, hd'⟩ := nd_is nd
  rw [hd'] at e1 e2 ⊢
  refine ⟨rfl, ?_⟩
  cases hr : rwN 20 nd
  · rw [hr] at e1
    simp (decide := true) (maxDischargeDepth := 200) only [go_sem, e1, Tryz.results9]
  · rw [hr] at e1
    have e2 := e2 hr
    simp (decide := true) (maxDischargeDepth := 200) only [go_sem, e1, e2, Tryz.results9]

end Go.Proofs.YteibnmlfipkmeaaGreatDoor

/- The laws of chapter 7, as functions of plain data. -/
namespace Go.Proofs.YteibnmlfipkmeaaGreatDoor
open Go Go.RowKit
set_option linter.unusedSimpArgs false
set_option maxRecDepth 100000 in
theorem one_is : parseN 20 ⟨#[49]⟩ ⟨#[115]⟩ = some (valNd 1 1 ⟨#[]⟩, -1, 0) := by kernel_rfl
def nd12 : Nd := .mk { hz with k := 5, op := ⟨#[43]⟩ } [.leaf { hz with k := 1, vk := 1, vn := 1 }, .leaf { hz with k := 1, vk := 1, vn := 2 }]
theorem pr12 : FE encN GPr [nodeV nd12] = some (.x (.string ⟨#[40, 49, 43, 50, 41]⟩)) := by
  refine (FPr_eq (nd := nd12) (by decide) (by refine (smN_eq _).2 ⟨by decide, ?_⟩; exact smL_of (by intro n hn; simp [nd12, Nd.ks] at hn; rcases hn with rfl | rfl <;> exact (smN_eq _).2 ⟨by decide, trivial⟩))).trans ?_
  have h1 : rwN 20 nd12 = true := by kernel_rfl
  have h2 : prP nd12 = [40, 49, 43, 50, 41] := by kernel_rfl
  rw [if_pos h1, h2]
  rfl
def FNum7 : List V → Option V
  | [.x (.int .i64 n)] => some (.x (.int .i64 n))
  | _ => none
set_option maxRecDepth 100000 in
theorem num7_fun : FunV 13 FNum7 := by
  refine fun_of_run (E := envOf []) (k := 1) (envOK_of _ trivial) (by kernel_rfl) Tryz.func13 rfl (fun a w => Tryz.call13 a w) Tryz.ntmps13 (by kernel_rfl) (by decide) (by decide) ?_
  intro us r hF hdat
  unfold FNum7 at hF
  split at hF
  case h_2 => cases hF
  rename_i n
  cases hF
  refine ⟨rfl, ?_⟩
  simp (decide := true) (maxDischargeDepth := 200) only [go_sem, Tryz.results13]

def FAlive7 : List V → Option V
  | [] => some (.x (.bool true))
  | _ => none
set_option maxRecDepth 100000 in
theorem alive7_fun : FunV 6 FAlive7 := by
  refine fun_of_run (E := envOf [(12, FProj), (8, (FE encN GPr)), (13, FNum7)]) (k := 0) (envOK_of _ ⟨(fun_ev parse_fun), print_fun, num7_fun, trivial⟩) (by kernel_rfl) Tryz.func6 rfl (fun a w => Tryz.call6 a w) Tryz.ntmps6 (by kernel_rfl) (by decide) (by decide) ?_
  intro us r hF hdat
  unfold FAlive7 at hF
  split at hF
  case h_2 => cases hF
  cases hF
  refine ⟨rfl, ?_⟩
  have e1 : FProj [.x (.string ⟨#[49]⟩), .x (.string ⟨#[115]⟩)] = _ := parse_at one_is
  have e2 := pr12
  simp only [nd12, nodeV_mk, nodeV_leaf, List.map_cons, List.map_nil] at e2
  simp (decide := true) (maxDischargeDepth := 200) only [go_sem, e1, e2, FNum7, nodeV_mk, nodeV_leaf, Tryz.results6]

noncomputable def GTells7 (nd : Nd) : Option V := open Classical in if smN nd then some (.x (.bool true)) else none
set_option maxHeartbeats 4000000 in
set_option maxRecDepth 100000 in
theorem tells7_fun : FunV 3 (FE encN GTells7) := by
  refine fun_of_run (E := envOf [(6, FAlive7), (7, FFew), (8, (FE encN GPr)), (9, (FE encN GPr))]) (k := 1) (envOK_of _ ⟨alive7_fun, few_fun, print_fun, rprintw_fun, trivial⟩) (by kernel_rfl) Tryz.func3 rfl (fun a w => Tryz.call3 a w) Tryz.ntmps3 (by kernel_rfl) (by decide) (by decide) ?_
  intro us r hF hdat
  obtain ⟨nd, hus, hG⟩ := FE_out hF
  clear hF
  subst hus
  have hF := hG
  clear hG
  unfold GTells7 at hF
  obtain ⟨hs, hF⟩ := ite_on hF
  cases hF
  clear hdat
  simp only [encN]
  have e1 := FFew_eq nd
  by_cases h4 : szN 101 nd ≤ 400
  · have c1 : decide (((szN 101 nd : Nat) : Int) ≤ 400) = true := decide_eq_true (by omega)
    rw [c1] at e1
    have e2 := FPr_eq (few_cnt h4) hs
    generalize (if rwN 20 nd = true then B (prP nd) else ⟨#[]⟩) = t at e2
    obtain ⟨kd, opd, nmd, vkd, vnd, vsd, csd, ccd, crd, tsd, tcd, trd, nld, szd, esd, hd'⟩ := nd_is nd
    rw [hd'] at e1 e2 ⊢
    refine ⟨rfl, ?_⟩
    simp (decide := true) (maxDischargeDepth := 200) only [go_sem, FAlive7, e1, e2, Tryz.results3]
  · have c1 : decide (((szN 101 nd : Nat) : Int) ≤ 400) = false := decide_eq_false (by omega)
    rw [c1] at e1
    obtain ⟨kd, opd, nmd, vkd, vnd, vsd, csd, ccd, crd, tsd, tcd, trd, nld, szd, esd, hd'⟩ := nd_is nd
    rw [hd'] at e1 ⊢
    refine ⟨rfl, ?_⟩
    simp (decide := true) (maxDischargeDepth := 200) only [go_sem, FAlive7, e1, Tryz.results3]

def encNS (p : Nd × ByteArray) : List V := [nodeV p.1, .x (.string p.2)]
theorem encNS_inj (p q : Nd × ByteArray) (e : encNS p = encNS q) : p = q := by
  obtain ⟨h1, h2⟩ := List.cons.inj e
  exact Prod.ext (nodeV_inj _ _ h1) (Value.string.inj (V.x.inj (List.cons.inj h2).1))
noncomputable def GBack7 (p : Nd × ByteArray) : Option V := open Classical in if smN p.1 then some (.x (.bool true)) else none
theorem FSame7 {a b : Nd} (h : cnt a ≤ 400) (h' : cnt b ≤ 400) : FE encNN GSame [nodeV a, nodeV b] = some (.x (.bool (sameN a b))) := (FE_at encNN_inj _ (a, b)).trans (GSame_of h h')
set_option maxHeartbeats 8000000 in
set_option maxRecDepth 100000 in
theorem back7_fun : FunV 4 (FE encNS GBack7) := by
  refine fun_of_run (E := envOf [(6, FAlive7), (7, FFew), (10, (FE encN GRightN)), (11, FName), (8, (FE encN GPr)), (12, FProj), (13, FNum7), (14, (FE encNN GSame))]) (k := 2) (envOK_of _ ⟨alive7_fun, few_fun, rightnode_fun, rname_fun, print_fun, (fun_ev parse_fun), num7_fun, rsame_fun, trivial⟩) (by kernel_rfl) Tryz.func4 rfl (fun a w => Tryz.call4 a w) Tryz.ntmps4 (by kernel_rfl) (by decide) (by decide) ?_
  intro us r hF hdat
  obtain ⟨⟨nd, sheet⟩, hus, hG⟩ := FE_out hF
  clear hF
  subst hus
  have hF := hG
  clear hG
  unfold GBack7 at hF
  obtain ⟨hs, hF⟩ := ite_on hF
  cases hF
  clear hdat
  simp only at hs
  simp only [encNS]
  have e1 := FFew_eq nd
  by_cases h4 : szN 101 nd ≤ 400
  · have c1 : decide (((szN 101 nd : Nat) : Int) ≤ 400) = true := decide_eq_true (by omega)
    rw [c1] at e1
    have h400 := few_cnt h4
    have e2 := FRightN_eq h400
    cases hr : rwN 20 nd
    · rw [hr] at e2
      obtain ⟨kd, opd, nmd, vkd, vnd, vsd, csd, ccd, crd, tsd, tcd, trd, nld, szd, esd, hd'⟩ := nd_is nd
      rw [hd'] at e1 e2 ⊢
      refine ⟨rfl, ?_⟩
      simp (decide := true) (maxDischargeDepth := 200) only [go_sem, FAlive7, e1, e2, Tryz.results4]
    · rw [hr] at e2
      cases hn : nameB sheet
      · obtain ⟨kd, opd, nmd, vkd, vnd, vsd, csd, ccd, crd, tsd, tcd, trd, nld, szd, esd, hd'⟩ := nd_is nd
        rw [hd'] at e1 e2 ⊢
        refine ⟨rfl, ?_⟩
        simp (decide := true) (maxDischargeDepth := 200) only [go_sem, FAlive7, e1, e2, FName, hn, Tryz.results4]
      · have e3 := FPr_eq h400 hs
        rw [if_pos hr] at e3
        have hok := rw_okP hr h400 hs
        have hdeep : dN nd ≤ 20 := by
          rw [rw_right] at hr
          simp only [Bool.and_eq_true, decide_eq_true_eq] at hr
          exact hr.1
        have e4 := parse_written (sheet := sheet) hok.1 hs h400 hdeep hn
        have e5 := FSame7 (a := nrm nd) (b := nd) (by rw [cnt_nrm]; exact h400) h400
        rw [same_nrm] at e5
        by_cases hl : 200 < (prP nd).length
        · rw [if_pos hl] at e4
          have c2 : decide ((200 : Int) < ((B (prP nd)).size : Int)) = true := decide_eq_true (by rw [B_size]; omega)
          obtain ⟨kd, opd, nmd, vkd, vnd, vsd, csd, ccd, crd, tsd, tcd, trd, nld, szd, esd, hd'⟩ := nd_is nd
          obtain ⟨kz, opz, nmz, vkz, vnz, vsz, csz, ccz, crz, tsz, tcz, trz, nlz, szz, esz, hz'⟩ := nd_is zNd
          rw [hd'] at e1 e2 e3 ⊢
          refine ⟨rfl, ?_⟩
          simp (decide := true) (maxDischargeDepth := 200) only [go_sem, FAlive7, e1, e2, e3, e4, FName, hn, c2, hz', FNum7, Tryz.results4]
        · rw [if_neg hl] at e4
          have c2 : decide ((200 : Int) < ((B (prP nd)).size : Int)) = false := decide_eq_false (by rw [B_size]; omega)
          obtain ⟨kz, opz, nmz, vkz, vnz, vsz, csz, ccz, crz, tsz, tcz, trz, nlz, szz, esz, hz'⟩ := nd_is (nrm nd)
          obtain ⟨kd, opd, nmd, vkd, vnd, vsd, csd, ccd, crd, tsd, tcd, trd, nld, szd, esd, hd'⟩ := nd_is nd
          rw [hz', hd'] at e5
          rw [hd'] at e1 e2 e3 ⊢
          refine ⟨rfl, ?_⟩
          simp (decide := true) (maxDischargeDepth := 200) only [go_sem, FAlive7, e1, e2, e3, e4, e5, FName, hn, c2, hz', FNum7, Tryz.results4]
  · have c1 : decide (((szN 101 nd : Nat) : Int) ≤ 400) = false := decide_eq_false (by omega)
    rw [c1] at e1
    obtain ⟨kd, opd, nmd, vkd, vnd, vsd, csd, ccd, crd, tsd, tcd, trd, nld, szd, esd, hd'⟩ := nd_is nd
    rw [hd'] at e1 ⊢
    refine ⟨rfl, ?_⟩
    simp (decide := true) (maxDischargeDepth := 200) only [go_sem, FAlive7, e1, Tryz.results4]

def FSame7L : List V → Option V
  | [.x (.string _), .x (.string _)] => some (.x (.bool true))
  | _ => none
set_option maxHeartbeats 8000000 in
set_option maxRecDepth 100000 in
theorem same7_fun : FunV 5 FSame7L := by
  refine fun_of_run (E := envOf [(6, FAlive7), (15, FRef), (8, (FE encN GPr)), (12, FProj), (13, FNum7), (14, (FE encNN GSame))]) (k := 2) (envOK_of _ ⟨alive7_fun, (fun_ev parseR_fun), print_fun, (fun_ev parse_fun), num7_fun, rsame_fun, trivial⟩) (by kernel_rfl) Tryz.func5 rfl (fun a w => Tryz.call5 a w) Tryz.ntmps5 (by kernel_rfl) (by decide) (by decide) ?_
  intro us r hF hdat
  unfold FSame7L at hF
  split at hF
  case h_2 => cases hF
  rename_i s sheet
  cases hF
  refine ⟨rfl, ?_⟩
  obtain ⟨a, x, e, -, e1, h400, h0, hs⟩ := parse_bothS s sheet
  by_cases h2 : 200 < s.size
  · have c1 : decide ((200 : Int) < (s.size : Int)) = true := decide_eq_true (by omega)
    obtain ⟨kd, opd, nmd, vkd, vnd, vsd, csd, ccd, crd, tsd, tcd, trd, nld, szd, esd, hd'⟩ := nd_is a
    simp (decide := true) (maxDischargeDepth := 200) only [go_sem, FAlive7, e1, c1, hd', Tryz.results5]
  · have c1 : decide ((200 : Int) < (s.size : Int)) = false := decide_eq_false (by omega)
    by_cases he : e = 0
    · subst he
      obtain ⟨hdeep, hr⟩ := h0 rfl
      have hrw : rwN 20 a = true := by rw [rw_right, hr, decide_eq_true hdeep]; rfl
      have e3 := FPr_eq h400 hs
      rw [if_pos hrw] at e3
      by_cases hl : 200 < (prP a).length
      · have c2 : decide ((200 : Int) < ((B (prP a)).size : Int)) = true := decide_eq_true (by rw [B_size]; omega)
        obtain ⟨kd, opd, nmd, vkd, vnd, vsd, csd, ccd, crd, tsd, tcd, trd, nld, szd, esd, hd'⟩ := nd_is a
        rw [hd'] at e3
        simp (decide := true) (maxDischargeDepth := 200) only [go_sem, FAlive7, e1, c1, hd', e3, c2, Tryz.results5]
      · have c2 : decide ((200 : Int) < ((B (prP a)).size : Int)) = false := decide_eq_false (by rw [B_size]; omega)
        have e4 := parse_written (sheet := ⟨#[122, 122]⟩) hr hs h400 hdeep (by decide)
        rw [if_neg hl] at e4
        have e5 := FSame7 (a := nrm a) (b := a) (by rw [cnt_nrm]; exact h400) h400
        rw [same_nrm] at e5
        have hp : prP (nrm a) = prP a := by unfold prP; rw [pcN_nrm _ a (Nat.le_refl _)]
        have hrw2 : rwN 20 (nrm a) = true := by rw [rw_right, rN_nrm _ a (Nat.le_refl _), hr, dN_nrm, decide_eq_true hdeep]; rfl
        have e6 := FPr_eq (nd := nrm a) (by rw [cnt_nrm]; exact h400) (smN_nrm _ a (Nat.le_refl _) hs)
        rw [if_pos hrw2, hp] at e6
        obtain ⟨kz, opz, nmz, vkz, vnz, vsz, csz, ccz, crz, tsz, tcz, trz, nlz, szz, esz, hz'⟩ := nd_is (nrm a)
        obtain ⟨kd, opd, nmd, vkd, vnd, vsd, csd, ccd, crd, tsd, tcd, trd, nld, szd, esd, hd'⟩ := nd_is a
        rw [hz', hd'] at e5
        rw [hz'] at e6
        rw [hd'] at e3
        simp (decide := true) (maxDischargeDepth := 200) only [go_sem, FAlive7, e1, c1, hd', e3, c2, e4, hz', e5, e6, FNum7, Tryz.results5]
    · have c3 : decide (e = 0) = false := decide_eq_false he
      obtain ⟨kd, opd, nmd, vkd, vnd, vsd, csd, ccd, crd, tsd, tcd, trd, nld, szd, esd, hd'⟩ := nd_is a
      simp (decide := true) (maxDischargeDepth := 200) only [go_sem, FAlive7, e1, c1, hd', c3, Tryz.results5]

end Go.Proofs.YteibnmlfipkmeaaGreatDoor
