/- Whatever node and row of cells with what they show are handed in, the law function EvalRight returns true and its arguments read as before. No condition beyond the row's own (package-level variables lie as the program's text lays them; a list of Kids that has itself as an element is not spoken of). -/
import Derived.Test.YtfngpfnbhafmlaaGreatDoorEvI
import Derived.Test.YtfngpfnbhafmlaaGreatDoorFrameN
import Derived.Test.YtfngpfnbhafmlaaGreatDoorFrameT
import Derived.Test.YtfngpfnbhafmlaaGreatDoorFrameC
import Derived.Test.YtfngpfnbhafmlaaGreatDoorFrameH
import Derived.Test.YtfngpfnbhafmlaaGreatDoorFrame
import Derived.Test.YtfngpfnbhafmlaaGreatDoorCards
import Derived.Test.YtfngpfnbhafmlaaGreatDoorTie
import Derived.SevenTiedAt
namespace Go.Proofs.YtfngpfnbhafmlaaGreatDoor
open Go.ChangeShapes Go.WideShapes Go.ChangeAt Go.WideMaps Go.WideElems Go.RowKit Go.Joins
set_option maxRecDepth 100000 in
theorem evalRight_lifted (os : Os) (started : os.Started) (H : Type) (enc : TypeId × Value → H) :
 ReturnsInHanded {} Tryz.checked os 5 .any (fun w args => (Rows.evalRightSpec.pre enc Tryz.prog Tryz.f5 [] false w args ∧ laidMetH Tryz.prog laidAll w) ∧ sizedMet enc Tryz.prog Tryz.f5 (OpenSpec.ofChange Rows.evalRightSpec) false w args)
  (Rows.evalRightSpec.post enc Tryz.prog Tryz.f5 false true false false) := by
 refine returns_shaped (C := Tryz.checked) (X := fun w _ => laidMetH Tryz.prog laidAll w) (fun _ _ _ hh h => h.of_heap hh) own started (by kernel_rfl) Tryz.func5
  (ChangeSpec.witness_shaped (enc := enc) (C := Tryz.checked) (os := os) (X := fun w _ => laidMetH Tryz.prog laidAll w) false (World.laidAll Tryz.prog os laidAll) #[.agg #[.int .i64 0, .string ⟨#[]⟩, .string ⟨#[]⟩, .int .i64 0, .int .i64 0, .string ⟨#[]⟩, .string ⟨#[]⟩, .int .i64 0, .int .i64 0, .string ⟨#[]⟩, .int .i64 0, .int .i64 0, .slice none 0 0], .slice none 0 0] 8 (World.laidAll_os _ _ _) (World.shaped_of_ZipB (by kernel_rfl) (by kernel_rfl)) (by kernel_rfl) (by kernel_rfl) (by kernel_rfl) (start_met os _)) ?_
 intro W base args ds gs before hval0 hW hL hsh
 have hval : ∀ (j : Nat) t v, Tryz.f5.params[j]? = some t → args[j]? = some v → Value.okWide Tryz.prog W .any base t v := hval0
 have hW' := hW
 obtain ⟨p, q, hA0, hV, rfl, hfz, hnd⟩ := hW
 have hA : DataW.TrodAll enc Tryz.prog W 0 (fun _ => true) true Tryz.f5.params.toList args.toList ds p := hA0
 rw [Tryz.params5] at hA hval
 obtain ⟨rfl, rfl⟩ := trodVars_none hV
 have hg := glob_of_laid hL hsh
 clear hA0 hval0
 simp only [List.append_nil] at hW'
 have hlt : ∀ x ∈ p, x.block < W.heap.size := fun x hx => by simpa using hW'.lt x hx
 have hback : ∀ W', Below W.heap.size W W' → DataW.TrodAll enc Tryz.prog W' 0 (fun b => decide (b < W.heap.size)) true [28, 29] args.toList ds p := fun W' hb =>
  trodAll_below laidOut hb _ _ _ _ (by intro t ht; have h0 : ([28, 29].all fun u => Tryz.prog.readableRec u && decide (u < Tryz.prog.types.size)) = true := (by kernel_rfl); have h1 := List.all_eq_true.1 h0 t ht; simp only [Bool.and_eq_true, decide_eq_true_eq] at h1; exact h1) hA hlt
 obtain ⟨v0, vs0, d0, ds0, p0, q0, hargs, rfl, rfl, h0, r0⟩ := trodAll_cons hA
 obtain ⟨v1, vs1, d1, ds1, p1, q1, rfl, rfl, rfl, h1, r1⟩ := trodAll_cons r0
 obtain ⟨rfl, rfl, rfl⟩ := trodAll_nil r1
 obtain rfl : args = #[v0, v1] := by cases args; simp_all
 obtain ⟨n0, sn0, rn0⟩ := open_nodeS (hval 0 28 v0 rfl rfl) h0
 obtain ⟨w1, zw1, iw1, rw1⟩ := open_shown (hval 1 29 v1 rfl rfl) h1
 refine (law_of_fun (evalRight_fun eEval_fun) (vs := #[v0, v1]) (us := [nodeV n0, swV w1]) ((FE_at encEv_inj GLaw11 (n0, w1)).trans (if_pos ⟨sn0, zw1, iw1⟩)) (by rw [List.all_cons, node_dat]; rfl) hg ⟨rn0, rw1, trivial⟩).mono fun e W' ⟨he, hnx⟩ => ?_
 subst he
 refine ⟨_, rfl, _, _, _, [], p0 ++ (p1 ++ ([])), [], hW', ?_, ?_, rfl, hnx.frame _, fun h => by cases h⟩
 · exact trodAll_mk1 (shut_bool Tryz.underlying4 true)
 · exact hback W' hnx
theorem evalRight_holds : Rows.EvalRightSaid :=
 OpenClaim.holds_of_wide 5 Tryz.f5 rfl rfl rfl rfl rfl rfl rfl ⟨rfl, rfl, rfl, rfl, rfl⟩ rfl rfl rfl rfl rfl (by kernel_rfl) Tryz.func5 (by kernel_rfl)
  (of_decide_eq_true (by kernel_rfl)) (by unfold Func.isWrapper; rw [if_neg (of_decide_eq_false (by kernel_rfl))]; exact ⟨rfl, rfl⟩)
  (fun os started H enc _ => evalRight_lifted os started H enc)
theorem evalRight_card : Rows.EvalRightCardSaid :=
 Claim7.holds_tied_plain_at .later [] Rows.evalRightCard.laidKinds true Rows.evalRightCard.stood.harness Rows.evalRightCard.stood.looks
  evalRight_holds (fun _ h => by cases h) (by kernel_rfl) (fun _ h => by cases h) evalRight_row_tie rfl ⟨rfl, rfl⟩ (by kernel_rfl) rfl
  (fun f fn hf hfn => by
   obtain rfl : f = 5 := Option.some.inj ((show Tryz.prog.funcNamed "abacist/abacistlaw11.EvalRight" = some 5 by kernel_rfl).symm.trans hf) |>.symm
   obtain rfl : fn = Tryz.f5 := (Option.some.inj (Tryz.func5.symm.trans hfn)).symm
   exact ⟨by kernel_rfl, fun j t ht => by
    rw [Tryz.params5] at ht
    have hm : t ∈ [28, 29] := by simpa using Array.mem_of_getElem? ht
    have hall : ([28, 29].all fun u => !Tryz.prog.wantsStandIn u) = true := by kernel_rfl
    exact (show Tryz.prog.wantsStandIn t = false by simpa using List.all_eq_true.1 hall t hm)⟩)
  (by kernel_rfl)
#print axioms evalRight_card
end Go.Proofs.YtfngpfnbhafmlaaGreatDoor
