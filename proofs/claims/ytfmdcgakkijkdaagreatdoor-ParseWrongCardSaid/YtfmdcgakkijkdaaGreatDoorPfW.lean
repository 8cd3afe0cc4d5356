/- The rules by which a run over plain data is reckoned out. -/
import Derived.Test.YtfmdcgakkijkdaaGreatDoorPfV
namespace Go.Proofs.YtfmdcgakkijkdaaGreatDoor
open Go Go.RowKit
set_option linter.unusedSimpArgs false

theorem noPtrTo_upd {s : Nat} {t : Nat → V} {i : Nat} {v : V} (hv : v.nm ≠ some s) (h : noPtrTo s t) : noPtrTo s (upd t i v) = True := by
  refine eq_true (fun j => ?_)
  rw [upd_at]
  split
  · exact hv
  · exact h j
theorem bq_t (b : Bool) : (b == true) = b := by cases b <;> rfl
theorem bq_f (b : Bool) : (b == false) = !b := by cases b <;> rfl
theorem bq_t' (b : Bool) : (true == b) = b := by cases b <;> rfl
theorem bq_f' (b : Bool) : (false == b) = !b := by cases b <;> rfl
section
variable {s i : Nat} {t : Nat → V}
theorem np_x {v : Value} (h : noPtrTo s t) : noPtrTo s (upd t i (.x v)) := by rw [noPtrTo_upd (by simp) h]; trivial
theorem np_agg {v : List V} (h : noPtrTo s t) : noPtrTo s (upd t i (.agg v)) := by rw [noPtrTo_upd (by simp) h]; trivial
theorem np_tup {v : List V} (h : noPtrTo s t) : noPtrTo s (upd t i (.tup v)) := by rw [noPtrTo_upd (by simp) h]; trivial
theorem np_sl {a : Bool} {z : Nat} {v : List V} {c : Option Nat} (h : noPtrTo s t) : noPtrTo s (upd t i (.sl a z v c)) := by rw [noPtrTo_upd (by simp) h]; trivial
theorem np_ip {v : List V} (h : noPtrTo s t) : noPtrTo s (upd t i (.ip v)) := by rw [noPtrTo_upd (by simp) h]; trivial
theorem np_undef (h : noPtrTo s t) : noPtrTo s (upd t i .undef) := by rw [noPtrTo_upd (by simp) h]; trivial
theorem np_ptr {s' off : Nat} (h : noPtrTo s t) (hne : ¬ s = s') : noPtrTo s (upd t i (.ptr s' off)) := by rw [noPtrTo_upd (by simp [Ne.symm hne]) h]; trivial
theorem np_row {s' z l : Nat} (h : noPtrTo s t) (hne : ¬ s = s') : noPtrTo s (upd t i (.row s' z l)) := by rw [noPtrTo_upd (by simp [Ne.symm hne]) h]; trivial
end
theorem np_strip {s k : Nat} {t : Nat → V} (h : noPtrTo s t) : noPtrTo s (strip k t) := by
  intro i
  rw [strip_nm]
  exact h i
theorem np_kill {s k : Nat} {t : Nat → V} (h : noPtrTo s t) : noPtrTo s (kill k t) := fun i => kill_nm _ _ _ _ (h i)
theorem strip_at (k : Nat) (t : Nat → V) (i : Nat) : strip k t i = stripV k (t i) := by unfold strip; exact Eq.refl _
theorem stripV_x (k : Nat) (v : Value) : stripV k (.x v) = .x v := stripV_eq _ _
theorem stripV_agg (k : Nat) (v : List V) : stripV k (.agg v) = .agg v := stripV_eq _ _
theorem stripV_tup (k : Nat) (v : List V) : stripV k (.tup v) = .tup v := stripV_eq _ _
theorem stripV_ip (k : Nat) (v : List V) : stripV k (.ip v) = .ip v := stripV_eq _ _
theorem stripV_ptr (k s o : Nat) : stripV k (.ptr s o) = .ptr s o := stripV_eq _ _
theorem stripV_row (k s z l : Nat) : stripV k (.row s z l) = .row s z l := stripV_eq _ _
theorem kill_at (k : Nat) (t : Nat → V) (i : Nat) : kill k t i = killV k (t i) := by unfold kill; exact Eq.refl _
theorem killV_x (k : Nat) (v : Value) : killV k (.x v) = .x v := killV_eq _ _
theorem killV_agg (k : Nat) (v : List V) : killV k (.agg v) = .agg v := killV_eq _ _
theorem killV_tup (k : Nat) (v : List V) : killV k (.tup v) = .tup v := killV_eq _ _
theorem killV_ip (k : Nat) (v : List V) : killV k (.ip v) = .ip v := killV_eq _ _
theorem killV_sl (k : Nat) (nl : Bool) (sz : Nat) (es : List V) (t : Option Nat) : killV k (.sl nl sz es t) = .sl nl sz es t := killV_eq _ _
theorem killV_dyn (k : Nat) (t : TypeId) : killV k (.dyn t) = .dyn t := killV_eq _ _
theorem killV_undef (k : Nat) : killV k .undef = .undef := killV_eq _ _
theorem killV_ptr (k s o : Nat) : killV k (.ptr s o) = if s = k then .undef else .ptr s o := killV_eq _ _
theorem killV_row (k s z l : Nat) : killV k (.row s z l) = if s = k then .undef else .row s z l := killV_eq _ _
theorem stripV_dyn (k : Nat) (t : TypeId) : stripV k (.dyn t) = .dyn t := stripV_eq _ _
theorem np_dyn {s i : Nat} {t : Nat → V} {d : TypeId} (h : noPtrTo s t) : noPtrTo s (upd t i (.dyn d)) := by rw [noPtrTo_upd (by simp) h]; trivial
theorem stripV_undef (k : Nat) : stripV k .undef = .undef := stripV_eq _ _
theorem stripV_none (k : Nat) (nl : Bool) (sz : Nat) (es : List V) : stripV k (.sl nl sz es none) = .sl nl sz es none := stripV_eq _ _
theorem stripV_some (k s : Nat) (nl : Bool) (sz : Nat) (es : List V) : stripV k (.sl nl sz es (some s)) = .sl nl sz es (if s = k then none else some s) := stripV_eq _ _
theorem noPtrTo_bot {s : Nat} : noPtrTo s (fun _ => .undef) = True := eq_true (fun _ h => by cases h)
theorem start_0 : start [] = ⟨fun _ => .undef, fun _ => none⟩ := rfl
theorem start_1 (u0 : V) : start [u0] = ⟨upd (fun _ => .undef) 0 u0, fun _ => none⟩ := rfl
theorem start_2 (u0 u1 : V) : start [u0, u1] = ⟨upd (upd (fun _ => .undef) 1 u1) 0 u0, fun _ => none⟩ := rfl
theorem start_3 (u0 u1 u2 : V) : start [u0, u1, u2] = ⟨upd (upd (upd (fun _ => .undef) 2 u2) 1 u1) 0 u0, fun _ => none⟩ := rfl
theorem start_4 (u0 u1 u2 u3 : V) : start [u0, u1, u2, u3] = ⟨upd (upd (upd (upd (fun _ => .undef) 3 u3) 2 u2) 1 u1) 0 u0, fun _ => none⟩ := rfl
theorem start_5 (u0 u1 u2 u3 u4 : V) : start [u0, u1, u2, u3, u4] = ⟨upd (upd (upd (upd (upd (fun _ => .undef) 4 u4) 3 u3) 2 u2) 1 u1) 0 u0, fun _ => none⟩ := rfl
theorem start_6 (u0 u1 u2 u3 u4 u5 : V) : start [u0, u1, u2, u3, u4, u5] = ⟨upd (upd (upd (upd (upd (upd (fun _ => .undef) 5 u5) 4 u4) 3 u3) 2 u2) 1 u1) 0 u0, fun _ => none⟩ := rfl
attribute [go_sem] run_skip run_region run_draw run_seq run_cond run_block run_loop run_label run_exit run_ret seqK_normal seqK_ret seqK_exit blockK_normal blockK_ret blockK_exit condK_true condK_false aopsK_nil aopsK_cons aopsK_guard nextK_some nextK_none guardK_true guardK_false guardV execV valV pureV ev ofVal start_0 start_1 start_2 start_3 start_4 start_5 start_6 St.put upd_at binV intV strV eqB eqF iteV newV loadV storeV partV np V.notPtr V.dat V.cell V.cells fillV buildV freshL isA retK resV resL resOne np_x np_agg np_tup np_sl np_ip np_undef np_ptr noPtrTo_bot lkF envOf_P envOf_F envOf_G boundV
attribute [go_sem] fnOf_func bare_dyn stripV_dyn np_dyn isC bare_x bare_agg bare_tup bare_ip bare_ptr bare_undef bare_sl keepV_move keepV_assign keepV_pick keepV_x keepV_agg keepV_tup keepV_ip keepV_ptr keepV_dyn keepV_undef keepV_sl rowV makeV strip_at stripV_x stripV_agg stripV_tup stripV_ip stripV_ptr stripV_undef stripV_none stripV_some np_strip bytesOf
attribute [go_sem] ite_true ite_false true_implies and_true true_and and_self reduceCtorEq false_implies if_true if_false List.getElem?_toArray List.getElem?_cons_succ List.getElem?_cons_zero Option.bind_some Option.map_some List.map_cons List.map_nil List.all_cons List.all_nil Bool.and_self Bool.true_and Bool.and_true Bool.false_eq_true List.length_cons List.length_nil List.take_succ_cons List.take_zero List.drop_succ_cons List.drop_zero List.cons_append List.nil_append List.mapM_cons List.mapM_nil Option.pure_def Option.bind_eq_bind Option.isNone_none ne_eq not_true_eq_false not_false_eq_true or_self or_false false_or gt_iff_lt ge_iff_le Nat.lt_irrefl Nat.not_lt_zero Nat.le_refl beq_self_eq_true Bool.not_true Bool.not_false Bool.true_eq_false cond_true cond_false List.toList_toArray Nat.zero_le decide_true decide_false imp_self implies_true forall_const List.take_nil List.drop_nil and_false false_and Nat.zero_add Nat.add_zero Bool.true_or Bool.or_true Bool.false_or Bool.or_false Bool.and_false Bool.false_and true_or or_true BEq.rfl
attribute [go_sem 500] growV.eq_1
theorem killRs_at (k : List Nat) (t : Nat → V) (i : Nat) : killRs k t i = killRV k (t i) := by unfold killRs; exact Eq.refl _
theorem killRV_x (k : List Nat) (v : Value) : killRV k (.x v) = .x v := killRV_eq _ _
theorem killRV_agg (k : List Nat) (v : List V) : killRV k (.agg v) = .agg v := killRV_eq _ _
theorem killRV_tup (k : List Nat) (v : List V) : killRV k (.tup v) = .tup v := killRV_eq _ _
theorem killRV_ip (k : List Nat) (v : List V) : killRV k (.ip v) = .ip v := killRV_eq _ _
theorem killRV_sl (k : List Nat) (nl : Bool) (sz : Nat) (es : List V) (t : Option Nat) : killRV k (.sl nl sz es t) = .sl nl sz es t := killRV_eq _ _
theorem killRV_dyn (k : List Nat) (t : TypeId) : killRV k (.dyn t) = .dyn t := killRV_eq _ _
theorem killRV_undef (k : List Nat) : killRV k .undef = .undef := killRV_eq _ _
theorem killRV_ptr (k : List Nat) (s o : Nat) : killRV k (.ptr s o) = .ptr s o := killRV_eq _ _
theorem killRV_row (k : List Nat) (s z l : Nat) : killRV k (.row s z l) = if k.contains s = true then .undef else .row s z l := killRV_eq _ _
theorem np_killRs {s : Nat} {k : List Nat} {t : Nat → V} (h : noPtrTo s t) : noPtrTo s (killRs k t) := fun i => by
  rcases killRV_is k (t i) with ⟨e, _⟩ | e
  · show (killRV k (t i)).nm ≠ _
    rw [e]; exact h i
  · show (killRV k (t i)).nm ≠ _
    rw [e]; simp
theorem startP_eq (us : List V) : startP us = ⟨startTP 0 us, startBP 0 us⟩ := rfl
attribute [go_sem] envP_P envP_F envP_FP envP_G envP_own envP_plain' envM_FP envOf_FP lkP callP argP slotsP V.datP putP killRs_at killRV_x killRV_agg killRV_tup killRV_ip killRV_sl killRV_dyn killRV_undef killRV_ptr killRV_row np_killRs startP_eq startTP startBP slotP retKP outsOf
attribute [go_sem] drawnK_at apartF apartL apL nmNe_pp nmNe_ip
attribute [go_sem] envM_P envM_F envM_G envM_own envM_plain envOf_plain envOf_own newR np_row np_kill kill_at killV_x killV_agg killV_tup killV_ip killV_sl killV_dyn killV_undef killV_ptr killV_row stripV_row bare_row keepV_row List.flatMap_cons List.flatMap_nil List.append_nil
attribute [go_sem] drawK_true drawK_false envB_P envB_F envB_FP envB_G envB_MB envB_any envB_own envP_MB envP_any envM_MB envM_any envOf_MB envOf_any envB_plain' envD_P envD_F envD_FP envD_G envD_MB envD_own
attribute [go_sem] wipe_P wipe_M wipe_O stripB_P stripB_M stripB_O stripB_D kept_P kept_M kept_O kept_D okS_P okS_M okS_O okS_D okN_P okN_M okN_O okN_D keepL_P keepL_M keepL_O keepL_D treeK_fin treeK_none treeK_alt oneK_some stripBO okN_B okN_B0 okS_B kept_B keepL_B keepL_B1 stripB_at wipeB_at wipe_B0 V.unm V.isSl pc_x pc_nil pc_sl pc_ip pc_dyn pc_undef
attribute [congr] drawK_congr oneK_congr treeK_congr seqK_congr blockK_congr condK_congr run_congr nextK_congr guardK_congr aopsK_congr
theorem toNat_0 : Int.toNat 0 = 0 := rfl
theorem toNat_1 : Int.toNat 1 = 1 := rfl
theorem toNat_2 : Int.toNat 2 = 2 := rfl
theorem toNat_3 : Int.toNat 3 = 3 := rfl
theorem toNat_4 : Int.toNat 4 = 4 := rfl
attribute [go_sem] toNat_0 toNat_1 toNat_2 toNat_3 toNat_4
/-- A value: its kind, its number, its text. -/
abbrev T3 := Int × Int × ByteArray
abbrev tv (r : T3) : V := vl r.1 r.2.1 r.2.2
attribute [go_sem] vl tv bq_t bq_f bq_t' bq_f' Bool.not_eq_true' Bool.not_eq_false' Bool.not_not
end Go.Proofs.YtfmdcgakkijkdaaGreatDoor
