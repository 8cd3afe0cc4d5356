/- Chapter 11: package eval's Eval. -/
import Derived.Test.YtfngpfnbhafmlaaGreatDoorEvL
import Derived.Test.YtfngpfnbhafmlaaGreatDoorMD
import Derived.Test.YtfngpfnbhafmlaaGreatDoorMT
import Derived.Test.YtfngpfnbhafmlaaGreatDoorML
import Derived.Test.YtfngpfnbhafmlaaGreatDoorMJ
namespace Go.Proofs.YtfngpfnbhafmlaaGreatDoor
open Go Go.RowKit
set_option linter.unusedSimpArgs false
theorem rb_size {k n : Int} {s : ByteArray} (h : rightB k n s = true) : s.size ≤ 281474976710656 := by
 unfold rightB at h
 simp only [Bool.or_eq_true, Bool.and_eq_true, beq_iff_eq, decide_eq_true_eq, List.isEmpty_iff] at h
 have he : s.toList = [] → s.size ≤ 281474976710656 := fun e => by
  have : s = ⟨#[]⟩ := by
   apply ba_ext
   rw [e]
   simp
  rw [this]
  exact Nat.zero_le _
 rcases h with (((h | h) | h) | h) | h
 · exact he h.2
 · exact he h.2
 · omega
 · exact he h.2
 · exact he h.2
set_option maxHeartbeats 32000000 in
set_option maxRecDepth 100000 in
theorem eEval_fun : FunV 8 (FE encEv GEvalT) := by
 refine fun_of_run (E := envQ [(14, FRightT), (15, FFault), (18, FClone)] [(16, (FE encRk (GRk 401)))] [(17, FBy)] (fun _ => false) (fun i => i == 3)) (k := 2) (envOK_Q _ _ _ _ _ ⟨rightt_fun, efault_fun, clone_fun, trivial⟩ ⟨(ereckon_fun gcall_fun), trivial⟩ ⟨bycell_fun, trivial⟩) (by kernel_rfl) Tryz.func8 rfl (fun a w => Tryz.call8 a w) Tryz.ntmps8 (by kernel_rfl) (by decide) (by decide) ?_
 intro us r hF hdat
 obtain ⟨⟨nd, wl, wz, w⟩, hus, hG⟩ := FE_out hF
 clear hF
 subst hus
 have hF := hG
 clear hG
 unfold GEvalT at hF
 split at hF
 case isFalse => cases hF
 rename_i hok
 cases hF
 obtain ⟨h400, hs, hw⟩ := hok
 simp only at h400 hs hw
 clear hdat
 refine ⟨rfl, ?_⟩
 simp only [encEv, swV]
 have ferr : FFault [.x (.int .i64 3)] = some (vl 4 3 ⟨#[]⟩) := rfl
 simp only [vl] at ferr
 have hright := FRightT_eq nd
 have e20 : rwN 20 nd = (decide ((dN nd : Int) ≤ 20) && rN nd) := by
  rw [rw_right]
  congr 1
  exact decide_eq_decide.2 (by omega)
 rw [e20] at hright
 have hrb := rb_ev (f := atL w) (at_RB w) nd
 have hby := FBy_at (p := (wl, wz, w)) hw
 simp only [swV] at hby
 unfold evalT at hrb ⊢
 cases hb : decide ((dN nd : Int) ≤ 20) && rN nd with
 | false =>
   rw [hb] at hright
   rw [if_neg (by decide)]
   obtain ⟨k, op, nm, vk, vn, vs, cs, cc, cr, ts, tc, tr, l, nl, sz, hh, hl, hf, hs13⟩ := node_cases nd
   rw [hf] at hright ⊢
   simp +decide (maxDischargeDepth := 200) only [go_sem, Tryz.results8, hright, ferr]
 | true =>
   rw [hb] at hright hrb
   rw [if_pos rfl] at hrb ⊢
   rw [Bool.and_eq_true] at hb
   have hk := GRk_of (n := 401) (nd := nd) (L := byL w) (by omega) ⟨h400, hb.2, hs, okM_byL w, byL_in hw.2.2⟩
   rw [getM_byL] at hk
   rcases hv : evalN (atL w) nd with ⟨b1, b2, b3⟩
   rw [hv] at hk hrb
   have hcl : FClone [.x (.string b3)] = some (.x (.string b3)) := if_pos (rb_size hrb)
   simp only [tv, vl, mpM] at hk
   generalize ksM (byL w) = ks at hk hby
   generalize vsM (byL w) = ms at hk hby
   obtain ⟨k, op, nm, vk, vn, vs, cs, cc, cr, ts, tc, tr, l, nl, sz, hh, hl, hf, hs13⟩ := node_cases nd
   rw [hf] at hright hk ⊢
   simp +decide (maxDischargeDepth := 200) only [go_sem, Tryz.results8, hright]
   refine any_dagB [(0, 0, 1, .sl wl wz (w.map shV) none), (0, 0, 2, .ptr 2 0), (0, 0, 4, .ptr 4 0), (1, 8, 10, .agg [.x (.int .i64 k), .x (.string op), .x (.string nm), .x (.int .i64 vk), .x (.int .i64 vn), .x (.string vs), .x (.string cs), .x (.int .i64 cc), .x (.int .i64 cr), .x (.string ts), .x (.int .i64 tc), .x (.int .i64 tr), .sl nl sz (l.map nodeV) none]), (2, 4, 11, .sl wl wz (w.map shV) none), (4, 8, 12, .mp 12 ks ms), (8, 32, 13, vl b1 b2 b3), (16, 0, 5, .ptr 5 0)] [(0, 0, 2, [.x (.int .i64 k), .x (.string op), .x (.string nm), .x (.int .i64 vk), .x (.int .i64 vn), .x (.string vs), .x (.string cs), .x (.int .i64 cc), .x (.int .i64 cr), .x (.string ts), .x (.int .i64 tc), .x (.int .i64 tr), .sl nl sz (l.map nodeV) none]), (0, 0, 4, [.x (.int .i64 0), .x (.int .i64 0), .x (.string ⟨#[]⟩)]), (16, 32, 5, [.x (.int .i64 0), .x (.int .i64 0), .x (.string ⟨#[]⟩)]), (32, 0, 5, [.x (.int .i64 b1), .x (.int .i64 b2), .x (.string b3)])] [(0, 0, 1), (0, 1, 2), (0, 4, 16), (1, 1, 3), (1, 4, 17), (2, 0, 3), (2, 2, 6), (2, 4, 18), (16, 0, 17), (16, 1, 18), (3, 2, 7), (3, 4, 19), (17, 1, 19), (6, 0, 7), (6, 4, 22), (18, 0, 19), (18, 2, 22), (7, 3, 15), (7, 4, 23), (19, 2, 23), (22, 0, 23), (15, 4, 31), (23, 3, 31), (31, 5, 63)] 63 (by kernel_rfl) (by kernel_rfl) ?_ ?_ ?_
   · simp +decide (maxDischargeDepth := 200) only [go_sem]
   · simp +decide (maxDischargeDepth := 200) only [go_sem, hby, hk]
   · simp +decide (maxDischargeDepth := 200) only [go_sem, Tryz.results8, hcl]
end Go.Proofs.YtfngpfnbhafmlaaGreatDoor
