/- The rules by which a run over plain data is reckoned out. -/
import Derived.Test.YtkacldoiimlmcaaPfV
namespace Go.Proofs.Ytkacldoiimlmcaa
open Go Go.RowKit
set_option linter.unusedSimpArgs false

theorem noPtrTo_upd {s : Nat} {t : Nat → V} {i : Nat} {v : V} (hv : v.nm ≠ some s) (h : noPtrTo s t) : noPtrTo s (upd t i v) = True := by
  refine eq_true (fun j => ?_)
  rw [upd_at]
  split
  · exact hv
  · exact h j
theorem bq_t (b : Bool) : (b == true) = b := by cases b <;> rfl
theorem bq_f (b : Bool) : (b == false) = !b := by cases b <;> rfl
theorem bq_t' (b : Bool) : (true == b) = b := by cases b <;> rfl
theorem bq_f' (b : Bool) : (false == b) = !b := by cases b <;> rfl
section
variable {s i : Nat} {t : Nat → V}
theorem np_x {v : Value} (h : noPtrTo s t) : noPtrTo s (upd t i (.x v)) := by rw [noPtrTo_upd (by simp) h]; trivial
theorem np_agg {v : List V} (h : noPtrTo s t) : noPtrTo s (upd t i (.agg v)) := by rw [noPtrTo_upd (by simp) h]; trivial
theorem np_tup {v : List V} (h : noPtrTo s t) : noPtrTo s (upd t i (.tup v)) := by rw [noPtrTo_upd (by simp) h]; trivial
theorem np_sl {a : Bool} {z : Nat} {v : List V} {c : Option Nat} (h : noPtrTo s t) : noPtrTo s (upd t i (.sl a z v c)) := by rw [noPtrTo_upd (by simp) h]; trivial
theorem np_ip {v : List V} (h : noPtrTo s t) : noPtrTo s (upd t i (.ip v)) := by rw [noPtrTo_upd (by simp) h]; trivial
theorem np_undef (h : noPtrTo s t) : noPtrTo s (upd t i .undef) := by rw [noPtrTo_upd (by simp) h]; trivial
theorem np_ptr {s' off : Nat} (h : noPtrTo s t) (hne : ¬ s = s') : noPtrTo s (upd t i (.ptr s' off)) := by rw [noPtrTo_upd (by simp [Ne.symm hne]) h]; trivial
theorem np_row {s' z l : Nat} (h : noPtrTo s t) (hne : ¬ s = s') : noPtrTo s (upd t i (.row s' z l)) := by rw [noPtrTo_upd (by simp [Ne.symm hne]) h]; trivial
end
theorem np_strip {s k : Nat} {t : Nat → V} (h : noPtrTo s t) : noPtrTo s (strip k t) := by
  intro i
  rw [strip_nm]
  exact h i
theorem np_kill {s k : Nat} {t : Nat → V} (h : noPtrTo s t) : noPtrTo s (kill k t) := fun i => kill_nm _ _ _ _ (h i)
theorem strip_at (k : Nat) (t : Nat → V) (i : Nat) : strip k t i = stripV k (t i) := by unfold strip; exact Eq.refl _
theorem stripV_x (k : Nat) (v : Value) : stripV k (.x v) = .x v := stripV_eq _ _
theorem stripV_agg (k : Nat) (v : List V) : stripV k (.agg v) = .agg v := stripV_eq _ _
theorem stripV_tup (k : Nat) (v : List V) : stripV k (.tup v) = .tup v := stripV_eq _ _
theorem stripV_ip (k : Nat) (v : List V) : stripV k (.ip v) = .ip v := stripV_eq _ _
theorem stripV_ptr (k s o : Nat) : stripV k (.ptr s o) = .ptr s o := stripV_eq _ _
theorem stripV_row (k s z l : Nat) : stripV k (.row s z l) = .row s z l := stripV_eq _ _
theorem kill_at (k : Nat) (t : Nat → V) (i : Nat) : kill k t i = killV k (t i) := by unfold kill; exact Eq.refl _
theorem killV_x (k : Nat) (v : Value) : killV k (.x v) = .x v := killV_eq _ _
theorem killV_agg (k : Nat) (v : List V) : killV k (.agg v) = .agg v := killV_eq _ _
theorem killV_tup (k : Nat) (v : List V) : killV k (.tup v) = .tup v := killV_eq _ _
theorem killV_ip (k : Nat) (v : List V) : killV k (.ip v) = .ip v := killV_eq _ _
theorem killV_sl (k : Nat) (nl : Bool) (sz : Nat) (es : List V) (t : Option Nat) : killV k (.sl nl sz es t) = .sl nl sz es t := killV_eq _ _
theorem killV_dyn (k : Nat) (t : TypeId) : killV k (.dyn t) = .dyn t := killV_eq _ _
theorem killV_undef (k : Nat) : killV k .undef = .undef := killV_eq _ _
theorem killV_ptr (k s o : Nat) : killV k (.ptr s o) = if s = k then .undef else .ptr s o := killV_eq _ _
theorem killV_row (k s z l : Nat) : killV k (.row s z l) = if s = k then .undef else .row s z l := killV_eq _ _
theorem killV_fm (k : Nat) (ks vs : List V) : killV k (.fm ks vs) = .fm ks vs := killV_eq _ _
theorem stripV_fm (k : Nat) (ks vs : List V) : stripV k (.fm ks vs) = .fm ks vs := stripV_eq _ _
theorem np_fm {s i : Nat} {t : Nat → V} {ks vs : List V} (h : noPtrTo s t) : noPtrTo s (upd t i (.fm ks vs)) := by rw [noPtrTo_upd (by simp) h]; trivial
attribute [go_sem] killV_fm stripV_fm np_fm bare_fm keepV_fm pc_fm
theorem stripV_dyn (k : Nat) (t : TypeId) : stripV k (.dyn t) = .dyn t := stripV_eq _ _
theorem np_dyn {s i : Nat} {t : Nat → V} {d : TypeId} (h : noPtrTo s t) : noPtrTo s (upd t i (.dyn d)) := by rw [noPtrTo_upd (by simp) h]; trivial
theorem stripV_undef (k : Nat) : stripV k .undef = .undef := stripV_eq _ _
theorem stripV_none (k : Nat) (nl : Bool) (sz : Nat) (es : List V) : stripV k (.sl nl sz es none) = .sl nl sz es none := stripV_eq _ _
theorem stripV_some (k s : Nat) (nl : Bool) (sz : Nat) (es : List V) : stripV k (.sl nl sz es (some s)) = .sl nl sz es (if s = k then none else some s) := stripV_eq _ _
theorem noPtrTo_bot {s : Nat} : noPtrTo s (fun _ => .undef) = True := eq_true (fun _ h => by cases h)
theorem start_0 : start [] = ⟨fun _ => .undef, fun _ => none⟩ := rfl
theorem start_1 (u0 : V) : start [u0] = ⟨upd (fun _ => .undef) 0 u0, fun _ => none⟩ := rfl
theorem start_2 (u0 u1 : V) : start [u0, u1] = ⟨upd (upd (fun _ => .undef) 1 u1) 0 u0, fun _ => none⟩ := rfl
theorem start_3 (u0 u1 u2 : V) : start [u0, u1, u2] = ⟨upd (upd (upd (fun _ => .undef) 2 u2) 1 u1) 0 u0, fun _ => none⟩ := rfl
theorem start_4 (u0 u1 u2 u3 : V) : start [u0, u1, u2, u3] = ⟨upd (upd (upd (upd (fun _ => .undef) 3 u3) 2 u2) 1 u1) 0 u0, fun _ => none⟩ := rfl
theorem start_5 (u0 u1 u2 u3 u4 : V) : start [u0, u1, u2, u3, u4] = ⟨upd (upd (upd (upd (upd (fun _ => .undef) 4 u4) 3 u3) 2 u2) 1 u1) 0 u0, fun _ => none⟩ := rfl
theorem start_6 (u0 u1 u2 u3 u4 u5 : V) : start [u0, u1, u2, u3, u4, u5] = ⟨upd (upd (upd (upd (upd (upd (fun _ => .undef) 5 u5) 4 u4) 3 u3) 2 u2) 1 u1) 0 u0, fun _ => none⟩ := rfl
attribute [go_sem] run_skip run_region run_draw run_seq run_cond run_block run_loop run_label run_exit run_ret seqK_normal seqK_ret seqK_exit blockK_normal blockK_ret blockK_exit condK_true condK_false aopsK_nil aopsK_cons aopsK_guard nextK_some nextK_none guardK_true guardK_false guardV execV valV pureV ev ofVal start_0 start_1 start_2 start_3 start_4 start_5 start_6 St.put upd_at binV intV strV eqB eqF iteV newV loadV storeV partV np V.notPtr V.dat V.cell V.cells fillV buildV freshL isA retK resV resL resOne np_x np_agg np_tup np_sl np_ip np_undef np_ptr noPtrTo_bot lkF envOf_P envOf_F envOf_G boundV
attribute [go_sem] fnOf_func bare_dyn stripV_dyn np_dyn isC bare_x bare_agg bare_tup bare_ip bare_ptr bare_undef bare_sl keepV_move keepV_assign keepV_pick keepV_x keepV_agg keepV_tup keepV_ip keepV_ptr keepV_dyn keepV_undef keepV_sl rowV makeV convV strip_at stripV_x stripV_agg stripV_tup stripV_ip stripV_ptr stripV_undef stripV_none stripV_some np_strip bytesOf
attribute [go_sem] ite_true ite_false true_implies and_true true_and and_self reduceCtorEq false_implies if_true if_false List.getElem?_toArray List.getElem?_cons_succ List.getElem?_cons_zero Option.bind_some Option.map_some List.map_cons List.map_nil List.all_cons List.all_nil Bool.and_self Bool.true_and Bool.and_true Bool.false_eq_true List.length_cons List.length_nil List.take_succ_cons List.take_zero List.drop_succ_cons List.drop_zero List.cons_append List.nil_append List.mapM_cons List.mapM_nil Option.pure_def Option.bind_eq_bind Option.isNone_none ne_eq not_true_eq_false not_false_eq_true or_self or_false false_or gt_iff_lt ge_iff_le Nat.lt_irrefl Nat.not_lt_zero Nat.le_refl beq_self_eq_true Bool.not_true Bool.not_false Bool.true_eq_false cond_true cond_false List.toList_toArray Nat.zero_le decide_true decide_false imp_self implies_true forall_const List.take_nil List.drop_nil and_false false_and Nat.zero_add Nat.add_zero Bool.true_or Bool.or_true Bool.false_or Bool.or_false Bool.and_false Bool.false_and true_or or_true BEq.rfl
attribute [go_sem 500] growV.eq_1
theorem killRs_at (k : List Nat) (t : Nat → V) (i : Nat) : killRs k t i = killRV k (t i) := by unfold killRs; exact Eq.refl _
theorem killRV_x (k : List Nat) (v : Value) : killRV k (.x v) = .x v := killRV_eq _ _
theorem killRV_agg (k : List Nat) (v : List V) : killRV k (.agg v) = .agg v := killRV_eq _ _
theorem killRV_tup (k : List Nat) (v : List V) : killRV k (.tup v) = .tup v := killRV_eq _ _
theorem killRV_ip (k : List Nat) (v : List V) : killRV k (.ip v) = .ip v := killRV_eq _ _
theorem killRV_sl (k : List Nat) (nl : Bool) (sz : Nat) (es : List V) (t : Option Nat) : killRV k (.sl nl sz es t) = .sl nl sz es t := killRV_eq _ _
theorem killRV_fm (k : List Nat) (ks vs : List V) : killRV k (.fm ks vs) = .fm ks vs := killRV_eq _ _
attribute [go_sem] killRV_fm
theorem killRV_dyn (k : List Nat) (t : TypeId) : killRV k (.dyn t) = .dyn t := killRV_eq _ _
theorem killRV_undef (k : List Nat) : killRV k .undef = .undef := killRV_eq _ _
theorem killRV_ptr (k : List Nat) (s o : Nat) : killRV k (.ptr s o) = .ptr s o := killRV_eq _ _
theorem killRV_row (k : List Nat) (s z l : Nat) : killRV k (.row s z l) = if k.contains s = true then .undef else .row s z l := killRV_eq _ _
theorem np_killRs {s : Nat} {k : List Nat} {t : Nat → V} (h : noPtrTo s t) : noPtrTo s (killRs k t) := fun i => by
  rcases killRV_is k (t i) with ⟨e, _⟩ | e
  · show (killRV k (t i)).nm ≠ _
    rw [e]; exact h i
  · show (killRV k (t i)).nm ≠ _
    rw [e]; simp
theorem startP_eq (us : List V) : startP us = ⟨startTP 0 us, startBP 0 us⟩ := rfl
attribute [go_sem] envP_P envP_F envP_FP envP_G envP_own envP_plain' envM_FP envOf_FP lkP callP okMB okM1 slotsP putP killRs_at killRV_x killRV_agg killRV_tup killRV_ip killRV_sl killRV_dyn killRV_undef killRV_ptr killRV_row np_killRs startP_eq startTP startBP slotP retKP outsOf outsA outsMp putMs
/- Maps. -/
theorem np_mp {s i s' : Nat} {t : Nat → V} {ks vs : List V} (h : noPtrTo s t) (hne : ¬ s = s') : noPtrTo s (upd t i (.mp s' ks vs)) := by rw [noPtrTo_upd (by simp [Ne.symm hne]) h]; trivial
theorem stripV_mp (k s : Nat) (ks vs : List V) : stripV k (.mp s ks vs) = .mp s ks vs := stripV_eq _ _
theorem killV_mp (k s : Nat) (ks vs : List V) : killV k (.mp s ks vs) = if s = k then .undef else .mp s ks vs := killV_eq _ _
theorem killRV_mp (k : List Nat) (s : Nat) (ks vs : List V) : killRV k (.mp s ks vs) = .mp s ks vs := killRV_eq _ _
theorem mapw_at (s : Nat) (ks vs : List V) (t : Nat → V) (i : Nat) : mapw s ks vs t i = mapwV s ks vs (t i) := by unfold mapw; exact Eq.refl _
section
variable (s : Nat) (ks vs : List V)
theorem mapwV_x (v : Value) : mapwV s ks vs (.x v) = .x v := mapwV_eq _ _ _ _
theorem mapwV_agg (v : List V) : mapwV s ks vs (.agg v) = .agg v := mapwV_eq _ _ _ _
theorem mapwV_tup (v : List V) : mapwV s ks vs (.tup v) = .tup v := mapwV_eq _ _ _ _
theorem mapwV_ip (v : List V) : mapwV s ks vs (.ip v) = .ip v := mapwV_eq _ _ _ _
theorem mapwV_sl (nl : Bool) (sz : Nat) (es : List V) (t : Option Nat) : mapwV s ks vs (.sl nl sz es t) = .sl nl sz es t := mapwV_eq _ _ _ _
theorem mapwV_fm (ks' vs' : List V) : mapwV s ks vs (.fm ks' vs') = .fm ks' vs' := mapwV_eq _ _ _ _
attribute [go_sem] mapwV_fm
theorem mapwV_dyn (t : TypeId) : mapwV s ks vs (.dyn t) = .dyn t := mapwV_eq _ _ _ _
theorem mapwV_undef : mapwV s ks vs .undef = .undef := mapwV_eq _ _ _ _
theorem mapwV_ptr (k o : Nat) : mapwV s ks vs (.ptr k o) = .ptr k o := mapwV_eq _ _ _ _
theorem mapwV_row (k z l : Nat) : mapwV s ks vs (.row k z l) = .row k z l := mapwV_eq _ _ _ _
theorem mapwV_mp (s' : Nat) (ks' vs' : List V) : mapwV s ks vs (.mp s' ks' vs') = if s' = s then .mp s ks vs else .mp s' ks' vs' := mapwV_eq _ _ _ _
end
theorem np_mapw {s k : Nat} {ks vs : List V} {t : Nat → V} (h : noPtrTo s t) : noPtrTo s (mapw k ks vs t) := fun i => by
  show (mapwV k ks vs (t i)).nm ≠ _
  rcases mapwV_is k ks vs (t i) with e | ⟨⟨ks', vs', e1⟩, e⟩
  · rw [e]; exact h i
  · rw [e]
    have := h i
    rw [e1] at this
    exact this
attribute [go_sem] bare_mp keepV_mp np_mp np_mapw stripV_mp killV_mp killRV_mp mapw_at mapwV_x mapwV_agg mapwV_tup mapwV_ip mapwV_sl mapwV_dyn mapwV_undef mapwV_ptr mapwV_row mapwV_mp
/-- An argument that is the address of a variable. -/
def argB : Option (List V) → V
  | some cs => .bx cs
  | none => .undef
section
variable (b : Nat → Option (List V)) (st : St) (E : Env)
theorem argP_ptr (s : Nat) : argP b (.ptr s 0) = argB (b s) := by show (match b s with | some cs => V.bx cs | none => .undef) = _; cases b s <;> rfl
theorem argP_x (v : Value) : argP b (.x v) = .x v := bare_x v
theorem argP_agg (v : List V) : argP b (.agg v) = .agg v := bare_agg v
theorem argP_ip (v : List V) : argP b (.ip v) = .ip v := bare_ip v
theorem argP_fm (ks vs : List V) : argP b (.fm ks vs) = .fm ks vs := bare_fm ks vs
attribute [go_sem] argP_fm
theorem argP_dyn (t : TypeId) : argP b (.dyn t) = .dyn t := bare_dyn t
theorem argP_undef : argP b .undef = .undef := bare_undef
theorem argP_mp (s : Nat) (ks vs : List V) : argP b (.mp s ks vs) = .mp 0 ks vs := rfl
theorem datP_mp (s : Nat) (ks vs : List V) : (V.mp s ks vs).datP = true := rfl
theorem argP_sl (nl : Bool) (sz : Nat) (es : List V) (t : Option Nat) : argP b (.sl nl sz es t) = argS nl sz es t := rfl
/-- A row as an argument that may grow. (Not to be opened.) -/
def rowA (sz : Nat) (es : List V) : V := argS es.isEmpty sz es (some 0)
theorem argS_row (sz : Nat) (es : List V) (k : Nat) : argS es.isEmpty sz es (some k) = rowA sz es := by unfold rowA; cases es <;> rfl
theorem argS_nil (sz : Nat) (es : List V) (t : Option Nat) : argS true sz es t = rowA 1 [] := rfl
theorem argS_none (sz : Nat) (es : List V) : argS false sz es none = .sl false sz es none := rfl
theorem argS_snoc (sz : Nat) (es : List V) (x : V) (k : Nat) : argS false sz (es ++ [x]) (some k) = rowA sz (es ++ [x]) := by unfold rowA; cases es <;> rfl
theorem rowA_nil (sz : Nat) : rowA sz [] = .sl true 0 [] (some 0) := rfl
theorem rowA_of (sz : Nat) {es : List V} (h : es ≠ []) : rowA sz es = .sl false sz es (some 0) := by cases es with | nil => exact absurd rfl h | cons e es => rfl
theorem datP_bx (cs : List V) : (V.bx cs).datP = true := rfl
theorem datP_x (v : Value) : (V.x v).datP = (V.x v).dat := rfl
theorem datP_agg (v : List V) : (V.agg v).datP = true := rfl
theorem datP_tup (v : List V) : (V.tup v).datP = false := rfl
theorem datP_ip (v : List V) : (V.ip v).datP = true := rfl
theorem datP_fm (ks vs : List V) : (V.fm ks vs).datP = true := rfl
attribute [go_sem] datP_fm
theorem datP_dyn (t : TypeId) : (V.dyn t).datP = true := rfl
theorem datP_undef : V.undef.datP = false := rfl
theorem datP_sl (nl : Bool) (sz : Nat) (es : List V) : (V.sl nl sz es none).datP = true := rfl
theorem datP_own (nl : Bool) (sz k : Nat) (es : List V) : (V.sl nl sz es (some k)).datP = true := rfl
theorem datP_row (sz : Nat) (es : List V) : (rowA sz es).datP = true := by cases es <;> rfl
theorem outsOf_row (k sz : Nat) (es us : List V) : outsOf k (rowA sz es :: us) b = outsOf (k + 1) us b := outsOf_no (by cases es <;> rfl)
theorem outsMp_row (k sz : Nat) (es us : List V) (t : Nat → V) : outsMp k (rowA sz es :: us) t = outsMp (k + 1) us t := outsMp_no (by cases es <;> rfl)
theorem slotsP_sl (nl : Bool) (sz : Nat) (es : List V) (t : Option Nat) (l : List V) : slotsP (.sl nl sz es t :: l) = slotsP l := rfl
theorem resP_own (d k sz : Nat) (nl : Bool) (es : List V) : resP E st (some d) (.sl nl sz es (some k)) = ⟨upd (strip d st.t) d (.sl nl sz es (some d)), stripB E d st.b⟩ := rfl
theorem resP_no (r : V) : resP E st none r = st := by unfold resP; rfl
theorem resP_x (d : Nat) (v : Value) : resP E st (some d) (.x v) = st.put (some d) (.x v) := by show st.put (some d) (V.x v).bare = _; rw [bare_x]
theorem resP_agg (d : Nat) (v : List V) : resP E st (some d) (.agg v) = st.put (some d) (.agg v) := by show st.put (some d) (V.agg v).bare = _; rw [bare_agg]
theorem resP_tup (d : Nat) (v : List V) : resP E st (some d) (.tup v) = st.put (some d) (.tup v) := by show st.put (some d) (V.tup v).bare = _; rw [bare_tup]
theorem resP_fm (d : Nat) (ks vs : List V) : resP E st (some d) (.fm ks vs) = st.put (some d) (.fm ks vs) := by show st.put (some d) (V.fm ks vs).bare = _; rw [bare_fm]
attribute [go_sem] resP_fm
theorem resP_dyn (d : Nat) (t : TypeId) : resP E st (some d) (.dyn t) = st.put (some d) (.dyn t) := by show st.put (some d) (V.dyn t).bare = _; rw [bare_dyn]
theorem resP_ip (d : Nat) (v : List V) : resP E st (some d) (.ip v) = st.put (some d) (.ip v) := by show st.put (some d) (V.ip v).bare = _; rw [bare_ip]
theorem resP_sl0 (d sz : Nat) (nl : Bool) (es : List V) : resP E st (some d) (.sl nl sz es none) = st.put (some d) (.sl nl sz es none) := by show st.put (some d) (V.sl nl sz es none).bare = _; rw [bare_sl]
theorem resT_own (nl : Bool) (sz k : Nat) (es : List V) : resT (.sl nl sz es (some k)) = some (.sl nl sz es (some 0)) := rfl
/-- A row that came as an argument, as what it is in the call. -/
theorem le_row (k n : Nat) (es : List V) : (V.sl es.isEmpty n es (some (1000 + k))).le (slotP k (rowA n es)) := by
  cases es with
  | nil => exact .inr (.inr ⟨_, _, _, _, rfl, rfl⟩)
  | cons e es => exact .inr (.inl rfl)
/-- The state at the beginning of a call whose first argument is a row that may grow. -/
theorem start_row (n : Nat) (es us : List V) : Le ⟨upd (startTP 1 us) 0 (.sl es.isEmpty n es (some 1000)), startBP 1 us⟩ (startP (rowA n es :: us)) := by
  refine ⟨fun i => ?_, fun s cs hs => ⟨cs, by rw [← hs]; exact congrFun (startBP_no (by cases es <;> rfl)) s, leC_refl cs⟩⟩
  show V.le (upd (startTP 1 us) 0 (.sl es.isEmpty n es (some 1000)) i) (upd (startTP 1 us) 0 (slotP 0 (rowA n es)) i)
  rw [upd_at, upd_at]
  split
  · exact le_row 0 n es
  · exact .inr (.inl rfl)
theorem startBP_row (k sz : Nat) (es us : List V) : startBP k (rowA sz es :: us) = startBP (k + 1) us := startBP_no (by cases es <;> rfl)
/-- What is known of the arguments at the beginning, one by one. -/
def leS : Nat → List V → List V → Prop
  | _, [], [] => True
  | k, t :: ts, u :: us => t.le (slotP k u) ∧ leS (k + 1) ts us
  | _, _, _ => False
theorem startT_le : ∀ (ts us : List V) (k : Nat), leS k ts us → ∀ i, V.le (startT k ts i) (startTP k us i)
  | [], [], _, _, i => .inl rfl
  | t :: ts, u :: us, k, h, i => by
    show V.le (upd (startT (k + 1) ts) k t i) (upd (startTP (k + 1) us) k (slotP k u) i)
    rw [upd_at, upd_at]
    split
    · exact h.1
    · exact startT_le ts us (k + 1) h.2 i
  | [], _ :: _, _, h, _ => h.elim
  | _ :: _, [], _, h, _ => h.elim
/-- The state at the beginning of a call, some of whose arguments are rows that may grow. -/
theorem start_any (ts us : List V) (h : leS 0 ts us) : Le ⟨startT 0 ts, startBP 0 us⟩ (startP us) :=
  ⟨fun i => startT_le ts us 0 h i, fun _ cs hs => ⟨cs, hs, leC_refl cs⟩⟩
end
attribute [go_sem] startT startBP_row outsOf_row outsMp_row argP_mp datP_mp mapsP argB argP_ptr argP_x argP_agg argP_ip argP_dyn argP_undef argP_sl argS_row argS_nil argS_none argS_snoc datP_bx datP_x datP_agg datP_tup datP_ip datP_dyn datP_undef datP_sl datP_own datP_row slotsP_sl marksP stripL stripBL resP_own resP_no resP_x resP_agg resP_tup resP_dyn resP_ip resP_sl0 resT_own resM retKO
attribute [go_sem] effV_B effV_P effV_M effV_O effV_D effX_at effX_at0 envX_P envX_F envX_FP envX_G envX_MB envX_any envX_own envX_X envX_xk wipe_X stripB_X kept_X okS_X okN_X keepL_X
attribute [go_sem] drawnK_at apartF apartL apL nmNe_pp nmNe_ip
attribute [go_sem] envM_P envM_F envM_G envM_own envM_plain envOf_plain envOf_own newR np_row np_kill kill_at killV_x killV_agg killV_tup killV_ip killV_sl killV_dyn killV_undef killV_ptr killV_row stripV_row bare_row keepV_row List.flatMap_cons List.flatMap_nil List.append_nil
attribute [go_sem] drawK_true drawK_false envB_P envB_F envB_FP envB_G envB_MB envB_any envB_own envP_MB envP_any envM_MB envM_any envOf_MB envOf_any envB_plain' envD_P envD_F envD_FP envD_G envD_MB envD_own
attribute [go_sem] wipe_P wipe_M wipe_O stripB_P stripB_M stripB_O stripB_D kept_P kept_M kept_O kept_D okS_P okS_M okS_O okS_D okN_P okN_M okN_O okN_D keepL_P keepL_M keepL_O keepL_D treeK_fin treeK_none treeK_alt oneK_some stripBO okN_B okN_B0 okS_B kept_B keepL_B keepL_B1 stripB_at wipeB_at wipe_B0 V.unm V.isSl pc_x pc_nil pc_sl pc_ip pc_dyn pc_undef
attribute [congr] drawK_congr oneK_congr treeK_congr seqK_congr blockK_congr condK_congr run_congr nextK_congr guardK_congr aopsK_congr
theorem toNat_0 : Int.toNat 0 = 0 := rfl
theorem toNat_1 : Int.toNat 1 = 1 := rfl
theorem toNat_2 : Int.toNat 2 = 2 := rfl
theorem toNat_3 : Int.toNat 3 = 3 := rfl
theorem toNat_4 : Int.toNat 4 = 4 := rfl
attribute [go_sem] toNat_0 toNat_1 toNat_2 toNat_3 toNat_4
theorem hintV_no : hintV none = true := rfl
theorem hintV_int (k : IntKind) (n : Int) : hintV (some (.x (.int k n))) = true := rfl
attribute [go_sem] execN envB_fz envP_fz envM_fz envOf_fz envD_fz envX_fz envQ_fz envR_fz envR_fz0 envR_P envR_F envR_FP envR_FM envR_G envR_MB envR_any envR_own envR_own0 envR_lit envR_plain' effV_R wipe_R stripB_R kept_R okS_R okN_R keepL_R mvOf freezeV makeR killV_mp bare_mp
attribute [go_sem] retKM isMapV hintV_no hintV_int Option.map_none callM lkM envB_FM envP_FM envM_FM envOf_FM envD_FM envX_FM envQ_P envQ_F envQ_FP envQ_FM envQ_G envQ_MB envQ_any envQ_own envQ_own0 envQ_lit envB_lit envP_lit envM_lit litR envQ_plain' effV_Q wipe_Q stripB_Q kept_Q okS_Q okN_Q keepL_Q
/-- A value: its kind, its number, its text. -/
abbrev T3 := Int × Int × ByteArray
abbrev tv (r : T3) : V := vl r.1 r.2.1 r.2.2
attribute [go_sem] vl tv bq_t bq_f bq_t' bq_f' Bool.not_eq_true' Bool.not_eq_false' Bool.not_not
end Go.Proofs.Ytkacldoiimlmcaa
