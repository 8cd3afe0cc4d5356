/- Chapter 11: the reference's Eval. -/
import Derived.Test.YtfngpfnbhafmlaaGreatDoorME
import Derived.Test.YtfngpfnbhafmlaaGreatDoorMT
import Derived.Test.YtfngpfnbhafmlaaGreatDoorMAd
namespace Go.Proofs.YtfngpfnbhafmlaaGreatDoor
open Go Go.RowKit
set_option linter.unusedSimpArgs false
def evalT (f : C3 → T3) (nd : Nd) : T3 := if (decide ((dN nd : Int) ≤ 20) && rN nd) = true then evalN f nd else (4, 3, ⟨#[]⟩)
open Classical in
noncomputable def GEvalT (p : Nd × SW) : Option V := if cnt p.1 ≤ 400 ∧ smN p.1 ∧ okSw p.2 then some (tv (evalT (atL p.2.2.2) p.1)) else none
open Classical in
theorem GEvalT_of {nd : Nd} {wl : Bool} {wz : Nat} {w : List Sh} (h : cnt nd ≤ 400) (hs : smN nd) (hw : okSw (wl, wz, w)) : FE encEv GEvalT [nodeV nd, .sl wl wz (w.map shV) none] = some (tv (evalT (atL w) nd)) := (FE_at encEv_inj _ (nd, wl, wz, w)).trans (if_pos ⟨h, hs, hw⟩)
set_option maxHeartbeats 16000000 in
set_option maxRecDepth 100000 in
theorem rEval_fun : FunV 9 (FE encEv GEvalT) := by
 refine fun_of_run (E := envOf [(19, (FE encN GRightN)), (20, FFault), (21, (FE encEv GEval))]) (k := 2) (envOK_of _ ⟨rightnode_fun, rerr_fun, reval_fun, trivial⟩) (by kernel_rfl) Tryz.func9 rfl (fun a w => Tryz.call9 a w) Tryz.ntmps9 (by kernel_rfl) (by decide) (by decide) ?_
 intro us r hF hdat
 obtain ⟨⟨nd, wl, wz, w⟩, hus, hG⟩ := FE_out hF
 clear hF
 subst hus
 have hF := hG
 clear hG
 unfold GEvalT at hF
 split at hF
 case isFalse => cases hF
 rename_i hok
 cases hF
 obtain ⟨h400, hs, hw⟩ := hok
 simp only at h400 hs hw
 clear hdat
 refine ⟨rfl, ?_⟩
 simp only [encEv, swV]
 have ferr : FFault [.x (.int .i64 3)] = some (vl 4 3 ⟨#[]⟩) := rfl
 have hr : FE encN GRightN [nodeV nd] = some (.x (.bool (decide ((dN nd : Int) ≤ 20) && rN nd))) := (FE_at encN_inj _ nd).trans (if_pos h400)
 unfold evalT
 cases hb : decide ((dN nd : Int) ≤ 20) && rN nd with
 | false =>
   rw [hb] at hr
   rw [if_neg (by decide)]
   obtain ⟨k, op, nm, vk, vn, vs, cs, cc, cr, ts, tc, tr, l, nl, sz, hh, hl, hf, hs13⟩ := node_cases nd
   rw [hf] at hr ⊢
   simp only [vl] at ferr
   simp +decide (maxDischargeDepth := 200) only [go_sem, hr, ferr, Tryz.results9]
 | true =>
   rw [hb] at hr
   rw [if_pos rfl]
   rw [Bool.and_eq_true] at hb
   have he : FE encEv GEval [nodeV nd, .sl wl wz (w.map shV) none] = some (tv (evalN (atL w) nd)) := (FE_at encEv_inj _ (nd, wl, wz, w)).trans (GEval_of ⟨h400, hb.2, hs, hw⟩)
   rcases hv : evalN (atL w) nd with ⟨b1, b2, b3⟩
   rw [hv] at he
   simp only [tv, vl] at he
   obtain ⟨k, op, nm, vk, vn, vs, cs, cc, cr, ts, tc, tr, l, nl, sz, hh, hl, hf, hs13⟩ := node_cases nd
   rw [hf] at hr he ⊢
   simp +decide (maxDischargeDepth := 200) only [go_sem, hr, he, Tryz.results9]
end Go.Proofs.YtfngpfnbhafmlaaGreatDoor
namespace Go.Proofs.YtfngpfnbhafmlaaGreatDoor
open Go Go.RowKit
set_option linter.unusedSimpArgs false
theorem any_dagE {E : Env} {ops : List Oper} {st : St} {K : St → Prop} (ents : List (Nat × Nat × Nat × V)) (bs : List (Nat × List V)) (ps : List (Nat × Nat × Nat)) (full : Nat) (hf : 2 ^ ops.length - 1 = full) (h : dagOK ops ps = true) (h0 : leT st (selT ents 0) ∧ leB st bs) (ht : dagT E ops ents bs ps)
 (hk : K (stOf (selT ents full) bs)) : AnyV E ops st K := any_dag ents bs ps h h0 ht (hf ▸ hk)
theorem stripB_B2 (l : List (Nat × (List V → Option V))) (M : Nat → Bool) (lp : List (Nat × (List V → Option (V × List (List V))))) (any : Nat → Bool) (k : Nat) (b : Nat → Option (List V)) : stripB (envB l M lp (fun _ => false) any) k b = b := rfl
attribute [go_sem] stripB_B2
theorem sh_cells (l : List Sh) : ((l.map shV).all fun u => u.cells.all V.cell) = true := List.all_eq_true.2 fun e he => by
 obtain ⟨v, _, rfl⟩ := List.mem_map.1 he
 rfl
theorem growV_nilrow {E : Env} {el n by' : Nat} {z : List V} (h1 : szB E.P el = some n) (hby : byB E.P el = some by') (hz : zeroB E.P el = some z) (h4 : n ≠ 0) (h5 : z.length = n)
 {es' : List V} {m : Nat} (hm : es' ≠ [] → m = n) (hc : (es'.all fun u => u.cells.all V.cell) = true) (hb : es'.length * by' ≤ 140737488355328) (hl : es'.length ≤ 9223372036854775807) (st : St) (d n0 : Nat) (nl : Bool) (t' : Option Nat) :
 growV E st (some d) el (.sl true n0 [] none) (.sl nl m es' t') = some ⟨upd (strip d st.t) d (.sl es'.isEmpty n es' (some d)), stripB E d st.b⟩ := by
 unfold growV
 simp only [h1, hby, hz]
 rw [if_pos ⟨h4, h5, by
  by_cases h : es' = []
  · exact .inr h
  · exact .inl (hm h), hc, hb, hl⟩]
 rfl
theorem rightV_B {k n : Int} {s : ByteArray} (h : rightV k n s = true) : rightB k n s = true := by
 have e : ∀ t : ByteArray, decide (t = ⟨#[]⟩) = true → t.toList.isEmpty = true := fun t ht => by
  rw [of_decide_eq_true ht]; simp
 unfold rightV at h
 unfold rightB
 by_cases h0 : k = 0
 · subst h0; simp at h; obtain ⟨rfl, rfl⟩ := h; simp
 by_cases h1 : k = 1
 · subst h1; simp at h; subst h; simp
 by_cases h2 : k = 2
 · subst h2; simp at h; obtain ⟨rfl, h⟩ := h; simp; omega
 by_cases h3 : k = 3
 · subst h3; simp at h; obtain ⟨h, rfl⟩ := h; rcases h with rfl | rfl <;> simp
 by_cases h4 : k = 4
 · subst h4; simp at h; obtain ⟨h5, h6, rfl⟩ := h; simp [h5, h6]
 simp [h0, h1, h2, h3, h4] at h
theorem rb_ev {f : C3 → T3} (hf : ∀ c, RB (f c)) (a : Nd) : RB (evalT f a) := by
 unfold evalT
 split
 · rename_i h
   rw [Bool.and_eq_true] at h
   have hr := h.2
   rw [evalN_eq]
   unfold evalH
   split
   · rename_i h1
     rw [rN_eq, Bool.and_eq_true, Bool.and_eq_true] at hr
     obtain ⟨_, _, ho⟩ := hr
     unfold okR at ho
     simp only [h1, decide_true, cond_true, Bool.and_eq_true] at ho
     exact rightV_B ho.1
   split
   · exact hf _
   split
   · exact rb_err (by decide) (by decide)
   split
   · exact rb_pair _ _ _ _ _ _ _
   split
   · exact rb_pair _ _ _ _ _ _ _
   split
   · exact rb_call _ _
   · exact rb_e3
 · exact rb_e3
def FAlive11 : List V → Option V
 | [] => some (.x (.bool true))
 | _ => none
set_option maxRecDepth 100000 in
theorem alive11_fun (hE : FunV 8 (FE encEv GEvalT)) : FunV 6 FAlive11 := by
 refine fun_of_run (E := envOf [(8, (FE encEv GEvalT))]) (k := 0) (envOK_of _ ⟨hE, trivial⟩) (by kernel_rfl) Tryz.func6 rfl (fun a w => Tryz.call6 a w) Tryz.ntmps6 (by kernel_rfl) (by decide) (by decide) ?_
 intro us r hF hdat
 unfold FAlive11 at hF
 split at hF
 case h_2 => cases hF
 cases hF
 refine ⟨rfl, ?_⟩
 have h : FE encEv GEvalT [nodeV (.leaf ⟨1, ⟨#[]⟩, ⟨#[]⟩, 1, 3, ⟨#[]⟩, ⟨#[]⟩, 0, 0, ⟨#[]⟩, 0, 0⟩), .sl true 0 (([] : List Sh).map shV) none] = some (tv (1, 3, ⟨#[]⟩)) := (GEvalT_of (by decide) (by show (3 : Int) ≤ 9223372036854775807; decide) ⟨fun h => absurd rfl h, Nat.zero_le _, fun q hq => by cases hq⟩).trans rfl
 have h' : FE encEv GEvalT [.agg [.x (.int .i64 1), .x (.string ⟨#[]⟩), .x (.string ⟨#[]⟩), .x (.int .i64 1), .x (.int .i64 3), .x (.string ⟨#[]⟩), .x (.string ⟨#[]⟩), .x (.int .i64 0), .x (.int .i64 0), .x (.string ⟨#[]⟩), .x (.int .i64 0), .x (.int .i64 0), .sl true 0 [] none], .sl true 0 [] none] = some (vl 1 3 ⟨#[]⟩) := h
 simp only [vl] at h'
 simp +decide (maxDischargeDepth := 200) only [go_sem, h', Tryz.results6]
open Classical in
noncomputable def GLaw11 (p : Nd × SW) : Option V := if smN p.1 ∧ (p.2.2.2 ≠ [] → p.2.2.1 = 6) ∧ ∀ q ∈ p.2.2.2, inR q.2.2.1 then some (.x (.bool true)) else none
set_option maxHeartbeats 32000000 in
set_option maxRecDepth 100000 in
theorem evalTells_fun (hE : FunV 8 (FE encEv GEvalT)) : FunV 3 (FE encEv GLaw11) := by
 refine fun_of_run (E := envB [(6, FAlive11), (7, FFew), (8, (FE encEv GEvalT)), (9, (FE encEv GEvalT))] (fun _ => false) [] (fun _ => false) (fun i => i == 9)) (k := 2) (envOK_B _ _ _ _ _ ⟨(alive11_fun hE), few_fun, hE, rEval_fun, trivial⟩ trivial) (by kernel_rfl) Tryz.func3 rfl (fun a w => Tryz.call3 a w) Tryz.ntmps3 (by kernel_rfl) (by decide) (by decide) ?_
 intro us r hF hdat
 obtain ⟨⟨nd, wl, wz, w⟩, hus, hG⟩ := FE_out hF
 clear hF
 subst hus
 have hF := hG
 clear hG
 unfold GLaw11 at hF
 split at hF
 case isFalse => cases hF
 rename_i hok
 cases hF
 obtain ⟨hs, hz, hin⟩ := hok
 simp only at hs hz hin
 clear hdat
 refine ⟨rfl, ?_⟩
 simp only [encEv, swV]
 have e1 : FAlive11 [] = some (.x (.bool true)) := rfl
 have hfew := FFew_eq nd
 obtain ⟨k, op, nm, vk, vn, vs, cs, cc, cr, ts, tc, tr, l, nl, sz, hh, hl, hf, hs13⟩ := node_cases nd
 by_cases h1 : ((szN 101 nd : Nat) : Int) ≤ 400
 · rw [decide_eq_true h1] at hfew
   have h400 := few_cnt (nd := nd) (by omega)
   by_cases h2 : (60 : Int) < (w.length : Int)
   · have d2 := decide_eq_true h2
     rw [hf] at hfew ⊢
     simp +decide (maxDischargeDepth := 200) only [go_sem, List.length_map, e1, hfew, d2, Tryz.results3]
   have d2 := decide_eq_false h2
   have hE1 := GEvalT_of (wl := wl) (wz := wz) (w := w) h400 hs ⟨hz, by simp only; omega, hin⟩
   have hE2 : ∀ nl2 sz2, (w ≠ [] → sz2 = 6) → FE encEv GEvalT [nodeV nd, .sl nl2 sz2 (w.map shV) none] = some (tv (evalT (atL w) nd)) := fun nl2 sz2 h => GEvalT_of h400 hs ⟨h, by simp only; omega, hin⟩
   rw [hf] at hE2
   rw [hf] at hfew ⊢
   rw [hf] at hE1
   simp +decide (maxDischargeDepth := 200) only [go_sem, List.length_map, e1, hfew, d2, Tryz.results3]
   refine loop_of (X := {i : Nat // i ≤ w.length}) (fun i => [(1, .sl wl wz (w.map shV) none), (2, .ptr 2 0), (6, .x (.int .i64 ((i.1 : Nat) : Int)))]) (fun _ => [(2, [.x (.int .i64 k), .x (.string op), .x (.string nm), .x (.int .i64 vk), .x (.int .i64 vn), .x (.string vs), .x (.string cs), .x (.int .i64 cc), .x (.int .i64 cr), .x (.string ts), .x (.int .i64 tc), .x (.int .i64 tr), .sl nl sz (l.map nodeV) none])]) (fun i => w.length - i.1) ⟨0, Nat.zero_le _⟩ (by simp +decide only [go_sem, Int.natCast_zero] <;> (repeat' first | rfl | constructor)) (by simp +decide only [go_sem] <;> (repeat' first | rfl | constructor)) (fun ⟨i, hi0⟩ => ?_)
   simp only at hi0 ⊢
   by_cases hi : i < w.length
   · have c1 : decide ((i : Int) < (w.length : Int)) = true := decide_eq_true (by omega)
     have c2 : (0 : Int) ≤ (i : Int) := by omega
     have c4 := count_up (i := i) (by omega)
     obtain ⟨ps, pc, pr, ak, an, at', q1, q2, q3, _⟩ := sh_at hi
     obtain rfl := hz (List.ne_nil_of_mem q3)
     simp only [shV] at q2
     by_cases h3 : (400 : Int) < (at'.size : Int)
     · have d3 := decide_eq_true h3
       simp +decide (maxDischargeDepth := 200) only [go_sem, List.length_map, c1, c2, q2, d3, Tryz.results3]
     · have d3 := decide_eq_false h3
       simp +decide (maxDischargeDepth := 200) only [go_sem, List.length_map, c1, c2, c4, q2, d3, Tryz.results3]
       refine ⟨⟨i + 1, hi⟩, ?_, ?_, ?_⟩
       · simp +decide (maxDischargeDepth := 200) only [go_sem]
       · simp +decide (maxDischargeDepth := 200) only [go_sem]
       · simp only; omega
   · have c1 : decide ((i : Int) < (w.length : Int)) = false := decide_eq_false (by omega)
     have hE3 := hE2 (w.map shV).isEmpty 6 (fun _ => rfl)
     rcases hv : evalT (atL w) nd with ⟨b1, b2, b3⟩
     rw [hv] at hE1 hE3
     simp only [tv, vl] at hE1 hE3
     have gg := growV_nilrow (E := envB [(6, FAlive11), (7, FFew), (8, (FE encEv GEvalT)), (9, (FE encEv GEvalT))] (fun _ => false) [] (fun _ => false) (fun i => i == 9)) (el := 33) (n := 6) sz33 by33 ze33 (by decide) rfl (es' := w.map shV) (m := wz) (fun h => hz (by simpa using h)) (sh_cells w) (by rw [List.length_map]; omega) (by rw [List.length_map]; omega)
     simp +decide (maxDischargeDepth := 200) only [go_sem, List.length_map, c1, Tryz.results3]
     refine any_dagE [(0, 0, 1, .sl wl wz (w.map shV) none), (0, 0, 2, .ptr 2 0), (1, 0, 35, .agg [.x (.int .i64 k), .x (.string op), .x (.string nm), .x (.int .i64 vk), .x (.int .i64 vn), .x (.string vs), .x (.string cs), .x (.int .i64 cc), .x (.int .i64 cr), .x (.string ts), .x (.int .i64 tc), .x (.int .i64 tr), .sl nl sz (l.map nodeV) none]), (2, 0, 36, .sl wl wz (w.map shV) none), (4, 0, 37, .sl (w.map shV).isEmpty 6 (w.map shV) (some 37)), (8, 0, 38, .agg [.x (.int .i64 b1), .x (.int .i64 b2), .x (.string b3)]), (16, 0, 39, .agg [.x (.int .i64 k), .x (.string op), .x (.string nm), .x (.int .i64 vk), .x (.int .i64 vn), .x (.string vs), .x (.string cs), .x (.int .i64 cc), .x (.int .i64 cr), .x (.string ts), .x (.int .i64 tc), .x (.int .i64 tr), .sl nl sz (l.map nodeV) none]), (32, 0, 40, .sl wl wz (w.map shV) none), (64, 0, 41, .agg [.x (.int .i64 b1), .x (.int .i64 b2), .x (.string b3)]), (128, 0, 42, .x (.bool true)), (256, 0, 4, .x (.bool true))] [(2, [.x (.int .i64 k), .x (.string op), .x (.string nm), .x (.int .i64 vk), .x (.int .i64 vn), .x (.string vs), .x (.string cs), .x (.int .i64 cc), .x (.int .i64 cr), .x (.string ts), .x (.int .i64 tc), .x (.int .i64 tr), .sl nl sz (l.map nodeV) none])] [(0, 0, 1), (0, 1, 2), (0, 4, 16), (0, 5, 32), (1, 1, 3), (1, 4, 17), (1, 5, 33), (2, 0, 3), (2, 2, 6), (2, 4, 18), (2, 5, 34), (16, 0, 17), (16, 1, 18), (16, 5, 48), (32, 0, 33), (32, 1, 34), (32, 4, 48), (3, 2, 7), (3, 4, 19), (3, 5, 35), (17, 1, 19), (17, 5, 49), (33, 1, 35), (33, 4, 49), (6, 0, 7), (6, 4, 22), (6, 5, 38), (18, 0, 19), (18, 2, 22), (18, 5, 50), (34, 0, 35), (34, 2, 38), (34, 4, 50), (48, 0, 49), (48, 1, 50), (7, 3, 15), (7, 4, 23), (7, 5, 39), (19, 2, 23), (19, 5, 51), (35, 2, 39), (35, 4, 51), (49, 1, 51), (22, 0, 23), (22, 5, 54), (38, 0, 39), (38, 4, 54), (50, 0, 51), (50, 2, 54), (15, 4, 31), (15, 5, 47), (23, 3, 31), (23, 5, 55), (39, 3, 47), (39, 4, 55), (51, 2, 55), (54, 0, 55), (31, 5, 63), (47, 4, 63), (55, 3, 63), (63, 6, 127), (127, 7, 255), (255, 8, 511)] 511 (by kernel_rfl) (by kernel_rfl) ?_ ?_ ?_
     · simp +decide (maxDischargeDepth := 200) only [go_sem]
     · simp +decide (maxDischargeDepth := 200) only [go_sem, hE1, hE3, gg]
     · simp +decide (maxDischargeDepth := 200) only [go_sem, Tryz.results3]
 · rw [decide_eq_false h1] at hfew
   rw [hf] at hfew ⊢
   simp +decide (maxDischargeDepth := 200) only [go_sem, List.length_map, e1, hfew, Tryz.results3]
end Go.Proofs.YtfngpfnbhafmlaaGreatDoor
