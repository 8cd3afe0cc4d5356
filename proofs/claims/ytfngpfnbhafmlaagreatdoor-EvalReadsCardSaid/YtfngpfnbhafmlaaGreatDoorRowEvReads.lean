/- Whatever node, row of cells with what they show, cell and value are handed in, the law function EvalReads returns true and its arguments read as before. No condition beyond the row's own (package-level variables lie as the program's text lays them; a list of Kids that has itself as an element is not spoken of). -/
import Derived.Test.YtfngpfnbhafmlaaGreatDoorEvI
import Derived.Test.YtfngpfnbhafmlaaGreatDoorMR
import Derived.Test.YtfngpfnbhafmlaaGreatDoorFrameN
import Derived.Test.YtfngpfnbhafmlaaGreatDoorFrameT
import Derived.Test.YtfngpfnbhafmlaaGreatDoorFrameC
import Derived.Test.YtfngpfnbhafmlaaGreatDoorFrameH
import Derived.Test.YtfngpfnbhafmlaaGreatDoorFrame
import Derived.Test.YtfngpfnbhafmlaaGreatDoorCards
import Derived.Test.YtfngpfnbhafmlaaGreatDoorTie
import Derived.SevenTiedAt
namespace Go.Proofs.YtfngpfnbhafmlaaGreatDoor
open Go.ChangeShapes Go.WideShapes Go.ChangeAt Go.WideMaps Go.WideElems Go.RowKit Go.Joins
set_option maxRecDepth 100000 in
theorem evalReads_lifted (os : Os) (started : os.Started) (H : Type) (enc : TypeId × Value → H) :
 ReturnsInHanded {} Tryz.checked os 4 .any (fun w args => (Rows.evalReadsSpec.pre enc Tryz.prog Tryz.f4 [] false w args ∧ laidMetH Tryz.prog laidAll w) ∧ sizedMet enc Tryz.prog Tryz.f4 (OpenSpec.ofChange Rows.evalReadsSpec) false w args)
  (Rows.evalReadsSpec.post enc Tryz.prog Tryz.f4 false true false false) := by
 refine returns_shaped (C := Tryz.checked) (X := fun w _ => laidMetH Tryz.prog laidAll w) (fun _ _ _ hh h => h.of_heap hh) own started (by kernel_rfl) Tryz.func4
  (ChangeSpec.witness_shaped (enc := enc) (C := Tryz.checked) (os := os) (X := fun w _ => laidMetH Tryz.prog laidAll w) false (World.laidAll Tryz.prog os laidAll) #[.agg #[.int .i64 0, .string ⟨#[]⟩, .string ⟨#[]⟩, .int .i64 0, .int .i64 0, .string ⟨#[]⟩, .string ⟨#[]⟩, .int .i64 0, .int .i64 0, .string ⟨#[]⟩, .int .i64 0, .int .i64 0, .slice none 0 0], .slice none 0 0, .agg #[.string ⟨#[]⟩, .int .i64 0, .int .i64 0], .agg #[.int .i64 0, .int .i64 0, .string ⟨#[]⟩]] 8 (World.laidAll_os _ _ _) (World.shaped_of_ZipB (by kernel_rfl) (by kernel_rfl)) (by kernel_rfl) (by kernel_rfl) (by kernel_rfl) (start_met os _)) ?_
 intro W base args ds gs before hval0 hW hL hsh
 have hval : ∀ (j : Nat) t v, Tryz.f4.params[j]? = some t → args[j]? = some v → Value.okWide Tryz.prog W .any base t v := hval0
 have hW' := hW
 obtain ⟨p, q, hA0, hV, rfl, hfz, hnd⟩ := hW
 have hA : DataW.TrodAll enc Tryz.prog W 0 (fun _ => true) true Tryz.f4.params.toList args.toList ds p := hA0
 rw [Tryz.params4] at hA hval
 obtain ⟨rfl, rfl⟩ := trodVars_none hV
 have hg := glob_of_laid hL hsh
 clear hA0 hval0
 simp only [List.append_nil] at hW'
 have hlt : ∀ x ∈ p, x.block < W.heap.size := fun x hx => by simpa using hW'.lt x hx
 have hback : ∀ W', Below W.heap.size W W' → DataW.TrodAll enc Tryz.prog W' 0 (fun b => decide (b < W.heap.size)) true [28, 29, 25, 23] args.toList ds p := fun W' hb =>
  trodAll_below laidOut hb _ _ _ _ (by intro t ht; have h0 : ([28, 29, 25, 23].all fun u => Tryz.prog.readableRec u && decide (u < Tryz.prog.types.size)) = true := (by kernel_rfl); have h1 := List.all_eq_true.1 h0 t ht; simp only [Bool.and_eq_true, decide_eq_true_eq] at h1; exact h1) hA hlt
 obtain ⟨v0, vs0, d0, ds0, p0, q0, hargs, rfl, rfl, h0, r0⟩ := trodAll_cons hA
 obtain ⟨v1, vs1, d1, ds1, p1, q1, rfl, rfl, rfl, h1, r1⟩ := trodAll_cons r0
 obtain ⟨v2, vs2, d2, ds2, p2, q2, rfl, rfl, rfl, h2, r2⟩ := trodAll_cons r1
 obtain ⟨v3, vs3, d3, ds3, p3, q3, rfl, rfl, rfl, h3, r3⟩ := trodAll_cons r2
 obtain ⟨rfl, rfl, rfl⟩ := trodAll_nil r3
 obtain rfl : args = #[v0, v1, v2, v3] := by cases args; simp_all
 obtain ⟨n0, sn0, rn0⟩ := open_nodeS (hval 0 28 v0 rfl rfl) h0
 obtain ⟨w1, zw1, iw1, rw1⟩ := open_shown (hval 1 29 v1 rfl rfl) h1
 obtain ⟨cs2, ck2, cr2, rfl⟩ := open_cell (hval 2 25 v2 rfl rfl) h2
 obtain ⟨a3, ia3, ra3⟩ := open_valS (hval 3 23 v3 rfl rfl) h3
 refine (law_of_fun (evalReads_fun eEval_fun) (vs := #[v0, v1, .agg #[.string cs2, .int .i64 ck2, .int .i64 cr2], v3]) (us := [nodeV n0, swV w1, cellV (cs2, ck2, cr2), tv a3]) ((FE_at encR4_inj GLaw11R (n0, w1, (cs2, ck2, cr2), a3)).trans (if_pos ⟨sn0, zw1, iw1, ia3⟩)) (by rw [List.all_cons, node_dat]; rfl) hg ⟨rn0, rw1, rd_cell _ _ _, ra3, trivial⟩).mono fun e W' ⟨he, hnx⟩ => ?_
 subst he
 refine ⟨_, rfl, _, _, _, [], p0 ++ (p1 ++ (p2 ++ (p3 ++ ([])))), [], hW', ?_, ?_, rfl, hnx.frame _, fun h => by cases h⟩
 · exact trodAll_mk1 (shut_bool Tryz.underlying4 true)
 · exact hback W' hnx
theorem evalReads_holds : Rows.EvalReadsSaid :=
 OpenClaim.holds_of_wide 4 Tryz.f4 rfl rfl rfl rfl rfl rfl rfl ⟨rfl, rfl, rfl, rfl, rfl⟩ rfl rfl rfl rfl rfl (by kernel_rfl) Tryz.func4 (by kernel_rfl)
  (of_decide_eq_true (by kernel_rfl)) (by unfold Func.isWrapper; rw [if_neg (of_decide_eq_false (by kernel_rfl))]; exact ⟨rfl, rfl⟩)
  (fun os started H enc _ => evalReads_lifted os started H enc)
theorem evalReads_card : Rows.EvalReadsCardSaid :=
 Claim7.holds_tied_plain_at .later [] Rows.evalReadsCard.laidKinds true Rows.evalReadsCard.stood.harness Rows.evalReadsCard.stood.looks
  evalReads_holds (fun _ h => by cases h) (by kernel_rfl) (fun _ h => by cases h) evalReads_row_tie rfl ⟨rfl, rfl⟩ (by kernel_rfl) rfl
  (fun f fn hf hfn => by
   obtain rfl : f = 4 := Option.some.inj ((show Tryz.prog.funcNamed "abacist/abacistlaw11.EvalReads" = some 4 by kernel_rfl).symm.trans hf) |>.symm
   obtain rfl : fn = Tryz.f4 := (Option.some.inj (Tryz.func4.symm.trans hfn)).symm
   exact ⟨by kernel_rfl, fun j t ht => by
    rw [Tryz.params4] at ht
    have hm : t ∈ [28, 29, 25, 23] := by simpa using Array.mem_of_getElem? ht
    have hall : ([28, 29, 25, 23].all fun u => !Tryz.prog.wantsStandIn u) = true := by kernel_rfl
    exact (show Tryz.prog.wantsStandIn t = false by simpa using List.all_eq_true.1 hall t hm)⟩)
  (by kernel_rfl)
#print axioms evalReads_card
end Go.Proofs.YtfngpfnbhafmlaaGreatDoor
