/- Chapter 11: the reference's Eval. -/
import Derived.Test.YtfngpfnbhafmlaaGreatDoorME
import Derived.Test.YtfngpfnbhafmlaaGreatDoorMT
import Derived.Test.YtfngpfnbhafmlaaGreatDoorMAd
namespace Go.Proofs.YtfngpfnbhafmlaaGreatDoor
open Go Go.RowKit
set_option linter.unusedSimpArgs false
def evalT (f : C3 → T3) (nd : Nd) : T3 := if (decide ((dN nd : Int) ≤ 20) && rN nd) = true then evalN f nd else (4, 3, ⟨#[]⟩)
open Classical in
noncomputable def GEvalT (p : Nd × SW) : Option V := if cnt p.1 ≤ 400 ∧ smN p.1 ∧ okSw p.2 then some (tv (evalT (atL p.2.2.2) p.1)) else none
open Classical in
theorem GEvalT_of {nd : Nd} {wl : Bool} {wz : Nat} {w : List Sh} (h : cnt nd ≤ 400) (hs : smN nd) (hw : okSw (wl, wz, w)) : FE encEv GEvalT [nodeV nd, .sl wl wz (w.map shV) none] = some (tv (evalT (atL w) nd)) := (FE_at encEv_inj _ (nd, wl, wz, w)).trans (if_pos ⟨h, hs, hw⟩)
end Go.Proofs.YtfngpfnbhafmlaaGreatDoor
namespace Go.Proofs.YtfngpfnbhafmlaaGreatDoor
open Go Go.RowKit
set_option linter.unusedSimpArgs false
theorem stripB_B2 (l : List (Nat × (List V → Option V))) (M : Nat → Bool) (lp : List (Nat × (List V → Option (V × List (List V))))) (any : Nat → Bool) (k : Nat) (b : Nat → Option (List V)) : stripB (envB l M lp (fun _ => false) any) k b = b := rfl
attribute [go_sem] stripB_B2
theorem sh_cells (l : List Sh) : ((l.map shV).all fun u => u.cells.all V.cell) = true := List.all_eq_true.2 fun e he => by
 obtain ⟨v, _, rfl⟩ := List.mem_map.1 he
 rfl
theorem rightV_B {k n : Int} {s : ByteArray} (h : rightV k n s = true) : rightB k n s = true := by
 have e : ∀ t : ByteArray, decide (t = ⟨#[]⟩) = true → t.toList.isEmpty = true := fun t ht => by
  rw [of_decide_eq_true ht]; simp
 unfold rightV at h
 unfold rightB
 by_cases h0 : k = 0
 · subst h0; simp at h; obtain ⟨rfl, rfl⟩ := h; simp
 by_cases h1 : k = 1
 · subst h1; simp at h; subst h; simp
 by_cases h2 : k = 2
 · subst h2; simp at h; obtain ⟨rfl, h⟩ := h; simp; omega
 by_cases h3 : k = 3
 · subst h3; simp at h; obtain ⟨h, rfl⟩ := h; rcases h with rfl | rfl <;> simp
 by_cases h4 : k = 4
 · subst h4; simp at h; obtain ⟨h5, h6, rfl⟩ := h; simp [h5, h6]
 simp [h0, h1, h2, h3, h4] at h
theorem rb_ev {f : C3 → T3} (hf : ∀ c, RB (f c)) (a : Nd) : RB (evalT f a) := by
 unfold evalT
 split
 · rename_i h
   rw [Bool.and_eq_true] at h
   have hr := h.2
   rw [evalN_eq]
   unfold evalH
   split
   · rename_i h1
     rw [rN_eq, Bool.and_eq_true, Bool.and_eq_true] at hr
     obtain ⟨_, _, ho⟩ := hr
     unfold okR at ho
     simp only [h1, decide_true, cond_true, Bool.and_eq_true] at ho
     exact rightV_B ho.1
   split
   · exact hf _
   split
   · exact rb_err (by decide) (by decide)
   split
   · exact rb_pair _ _ _ _ _ _ _
   split
   · exact rb_pair _ _ _ _ _ _ _
   split
   · exact rb_call _ _
   · exact rb_e3
 · exact rb_e3
def FAlive11 : List V → Option V
 | [] => some (.x (.bool true))
 | _ => none
set_option maxRecDepth 100000 in
theorem alive11_fun (hE : FunV 8 (FE encEv GEvalT)) : FunV 6 FAlive11 := by
 refine fun_of_run (E := envOf [(8, (FE encEv GEvalT))]) (k := 0) (envOK_of _ ⟨hE, trivial⟩) (by kernel_rfl) Tryz.func6 rfl (fun a w => Tryz.call6 a w) Tryz.ntmps6 (by kernel_rfl) (by decide) (by decide) ?_
 intro us r hF hdat
 unfold FAlive11 at hF
 split at hF
 case h_2 => cases hF
 cases hF
 refine ⟨rfl, ?_⟩
 have h : FE encEv GEvalT [nodeV (.leaf ⟨1, ⟨#[]⟩, ⟨#[]⟩, 1, 3, ⟨#[]⟩, ⟨#[]⟩, 0, 0, ⟨#[]⟩, 0, 0⟩), .sl true 0 (([] : List Sh).map shV) none] = some (tv (1, 3, ⟨#[]⟩)) := (GEvalT_of (by decide) (by show (3 : Int) ≤ 9223372036854775807; decide) ⟨fun h => absurd rfl h, Nat.zero_le _, fun q hq => by cases hq⟩).trans rfl
 have h' : FE encEv GEvalT [.agg [.x (.int .i64 1), .x (.string ⟨#[]⟩), .x (.string ⟨#[]⟩), .x (.int .i64 1), .x (.int .i64 3), .x (.string ⟨#[]⟩), .x (.string ⟨#[]⟩), .x (.int .i64 0), .x (.int .i64 0), .x (.string ⟨#[]⟩), .x (.int .i64 0), .x (.int .i64 0), .sl true 0 [] none], .sl true 0 [] none] = some (vl 1 3 ⟨#[]⟩) := h
 simp only [vl] at h'
 simp +decide (maxDischargeDepth := 200) only [go_sem, h', Tryz.results6]
open Classical in
noncomputable def GLaw11 (p : Nd × SW) : Option V := if smN p.1 ∧ (p.2.2.2 ≠ [] → p.2.2.1 = 6) ∧ ∀ q ∈ p.2.2.2, inR q.2.2.1 then some (.x (.bool true)) else none
set_option maxHeartbeats 32000000 in
set_option maxRecDepth 100000 in
theorem evalRight_fun (hE : FunV 8 (FE encEv GEvalT)) : FunV 5 (FE encEv GLaw11) := by
 refine fun_of_run (E := envOf [(6, FAlive11), (7, FFew), (8, (FE encEv GEvalT)), (12, FRight)]) (k := 2) (envOK_of _ ⟨(alive11_fun hE), few_fun, hE, rvalr_fun, trivial⟩) (by kernel_rfl) Tryz.func5 rfl (fun a w => Tryz.call5 a w) Tryz.ntmps5 (by kernel_rfl) (by decide) (by decide) ?_
 intro us r hF hdat
 obtain ⟨⟨nd, wl, wz, w⟩, hus, hG⟩ := FE_out hF
 clear hF
 subst hus
 have hF := hG
 clear hG
 unfold GLaw11 at hF
 split at hF
 case isFalse => cases hF
 rename_i hok
 cases hF
 obtain ⟨hs, hz, hin⟩ := hok
 simp only at hs hz hin
 clear hdat
 refine ⟨rfl, ?_⟩
 simp only [encEv, swV]
 have e1 : FAlive11 [] = some (.x (.bool true)) := rfl
 have hfew := FFew_eq nd
 obtain ⟨k, op, nm, vk, vn, vs, cs, cc, cr, ts, tc, tr, l, nl, sz, hh, hl, hf, hs13⟩ := node_cases nd
 by_cases h1 : ((szN 101 nd : Nat) : Int) ≤ 400
 · rw [decide_eq_true h1] at hfew
   have h400 := few_cnt (nd := nd) (by omega)
   by_cases h2 : (60 : Int) < (w.length : Int)
   · have d2 := decide_eq_true h2
     rw [hf] at hfew ⊢
     simp +decide (maxDischargeDepth := 200) only [go_sem, List.length_map, e1, hfew, d2, Tryz.results5]
   have d2 := decide_eq_false h2
   have hE1 := GEvalT_of (wl := wl) (wz := wz) (w := w) h400 hs ⟨hz, by simp only; omega, hin⟩
   have hb := rb_ev (f := atL w) (at_RB w) nd
   rw [hf] at hfew ⊢
   rw [hf] at hE1
   simp +decide (maxDischargeDepth := 200) only [go_sem, List.length_map, e1, hfew, d2, Tryz.results5]
   refine loop_of (X := {i : Nat // i ≤ w.length}) (fun i => [(1, .sl wl wz (w.map shV) none), (2, .ptr 2 0), (6, .x (.int .i64 ((i.1 : Nat) : Int)))]) (fun _ => [(2, [.x (.int .i64 k), .x (.string op), .x (.string nm), .x (.int .i64 vk), .x (.int .i64 vn), .x (.string vs), .x (.string cs), .x (.int .i64 cc), .x (.int .i64 cr), .x (.string ts), .x (.int .i64 tc), .x (.int .i64 tr), .sl nl sz (l.map nodeV) none])]) (fun i => w.length - i.1) ⟨0, Nat.zero_le _⟩ (by simp +decide only [go_sem, Int.natCast_zero] <;> (repeat' first | rfl | constructor)) (by simp +decide only [go_sem] <;> (repeat' first | rfl | constructor)) (fun ⟨i, hi0⟩ => ?_)
   simp only at hi0 ⊢
   by_cases hi : i < w.length
   · have c1 : decide ((i : Int) < (w.length : Int)) = true := decide_eq_true (by omega)
     have c2 : (0 : Int) ≤ (i : Int) := by omega
     have c4 := count_up (i := i) (by omega)
     obtain ⟨ps, pc, pr, ak, an, at', q1, q2, q3, _⟩ := sh_at hi
     obtain rfl := hz (List.ne_nil_of_mem q3)
     simp only [shV] at q2
     by_cases h3 : (400 : Int) < (at'.size : Int)
     · have d3 := decide_eq_true h3
       simp +decide (maxDischargeDepth := 200) only [go_sem, List.length_map, c1, c2, q2, d3, Tryz.results5]
     · have d3 := decide_eq_false h3
       simp +decide (maxDischargeDepth := 200) only [go_sem, List.length_map, c1, c2, c4, q2, d3, Tryz.results5]
       refine ⟨⟨i + 1, hi⟩, ?_, ?_, ?_⟩
       · simp +decide (maxDischargeDepth := 200) only [go_sem]
       · simp +decide (maxDischargeDepth := 200) only [go_sem]
       · simp only; omega
   · have c1 : decide ((i : Int) < (w.length : Int)) = false := decide_eq_false (by omega)
     rcases hv : evalT (atL w) nd with ⟨b1, b2, b3⟩
     rw [hv] at hE1 hb
     simp only [tv, vl] at hE1
     have hb : rightB b1 b2 b3 = true := hb
     have er : FRight [.agg [.x (.int .i64 b1), .x (.int .i64 b2), .x (.string b3)]] = some (.x (.bool true)) := by show some (V.x (.bool (rightB b1 b2 b3))) = _; rw [hb]
     simp +decide (maxDischargeDepth := 200) only [go_sem, List.length_map, c1, hE1, er, Tryz.results5]
 · rw [decide_eq_false h1] at hfew
   rw [hf] at hfew ⊢
   simp +decide (maxDischargeDepth := 200) only [go_sem, List.length_map, e1, hfew, Tryz.results5]
end Go.Proofs.YtfngpfnbhafmlaaGreatDoor
