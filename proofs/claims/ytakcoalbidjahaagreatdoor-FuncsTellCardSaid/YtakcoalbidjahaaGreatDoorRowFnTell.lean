/- Whatever text and rows of values are handed in, the law function FuncsTell returns true and its arguments read as before. No condition beyond the row's own (package-level variables lie as the program's text lays them). -/
import Derived.Test.YtakcoalbidjahaaGreatDoorMJ
import Derived.Test.YtakcoalbidjahaaGreatDoorFrameN
import Derived.Test.YtakcoalbidjahaaGreatDoorFrameS
import Derived.Test.YtakcoalbidjahaaGreatDoorFrameW
import Derived.Test.YtakcoalbidjahaaGreatDoorFrame
import Derived.Test.YtakcoalbidjahaaGreatDoorCards
import Derived.Test.YtakcoalbidjahaaGreatDoorTie
import Derived.SevenTiedAt
namespace Go.Proofs.YtakcoalbidjahaaGreatDoor
open Go.ChangeShapes Go.WideShapes Go.ChangeAt Go.WideMaps Go.WideElems Go.RowKit Go.Joins

set_option maxRecDepth 100000 in
theorem funcsTell_lifted (os : Os) (started : os.Started) (H : Type) (enc : TypeId × Value → H) :
    ReturnsInHanded {} Tryz.checked os 3 .any (fun w args => (Rows.funcsTellSpec.pre enc Tryz.prog Tryz.f3 [] false w args ∧ laidMetH Tryz.prog laidAll w) ∧ sizedMet enc Tryz.prog Tryz.f3 (OpenSpec.ofChange Rows.funcsTellSpec) false w args)
      (Rows.funcsTellSpec.post enc Tryz.prog Tryz.f3 false true false false) := by
  refine returns_sized (C := Tryz.checked) (X := fun w _ => laidMetH Tryz.prog laidAll w) (fun _ _ _ hh h => h.of_heap hh) own started (by kernel_rfl) Tryz.func3
    (ChangeSpec.witness_shaped (enc := enc) (C := Tryz.checked) (os := os) (X := fun w _ => laidMetH Tryz.prog laidAll w) false (World.laidAll Tryz.prog os laidAll) #[.string ⟨#[]⟩, .slice none 0 0] 8 (World.laidAll_os _ _ _) (World.shaped_of_ZipB (by kernel_rfl) (by kernel_rfl)) (by kernel_rfl) (by kernel_rfl) (by kernel_rfl) (start_met os _)) ?_
  intro W base args ds gs before hval0 hW hwt hL hsh
  have hval : ∀ (j : Nat) t v, Tryz.f3.params[j]? = some t → args[j]? = some v → Value.okWide Tryz.prog W .any base t v := hval0
  have hW' := hW
  obtain ⟨p, q, hA0, hV, rfl, hfz, hnd⟩ := hW
  have hA : DataW.TrodAll enc Tryz.prog W 0 (fun _ => true) true Tryz.f3.params.toList args.toList ds p := hA0
  rw [Tryz.params3] at hA hval
  obtain ⟨rfl, rfl⟩ := trodVars_none hV
  have hg := glob_of_laid hL hsh
  clear hA0 hval0
  simp only [List.append_nil] at hW'
  have hlt : ∀ x ∈ p, x.block < W.heap.size := fun x hx => by simpa using hW'.lt x hx
  have hback : ∀ W', Below W.heap.size W W' → DataW.TrodAll enc Tryz.prog W' 0 (fun b => decide (b < W.heap.size)) true [9, 22] args.toList ds p := fun W' hb =>
    trodAll_below laidOut hb _ _ _ _ (by intro t ht; have h0 : ([9, 22].all fun u => Tryz.prog.readableRec u && decide (u < Tryz.prog.types.size)) = true := (by kernel_rfl); have h1 := List.all_eq_true.1 h0 t ht; simp only [Bool.and_eq_true, decide_eq_true_eq] at h1; exact h1) hA hlt
  obtain ⟨v0, vs0, d0, ds0, p0, q0, hargs, rfl, rfl, h0, r0⟩ := trodAll_cons hA
  obtain ⟨v1, vs1, d1, ds1, p1, q1, rfl, rfl, rfl, h1, r1⟩ := trodAll_cons r0
  obtain ⟨rfl, rfl, rfl⟩ := trodAll_nil r1
  obtain rfl : args = #[v0, v1] := by cases args; simp_all
  obtain ⟨t0, rfl, bt0⟩ := open_text (hval 0 9 v0 rfl rfl) h0
  obtain ⟨w1, ow1, rw1⟩ := open_rows_sized (hval 1 22 v1 rfl rfl) h1 (fun n hn => by have hh := List.all_eq_true.1 hwt n (DataW.weights_mem_each (j := 1) (t := 22) (d := d1) rfl rfl n hn); simpa using hh)
  refine (law_of_fun tell10_fun (vs := #[.string t0, v1]) (us := [.x (.string t0), awV w1]) ((FE_at encNA_inj GTell10 (t0, w1)).trans (if_pos ⟨ow1.1, fun r hr => ⟨(ow1.2 r hr).1.1, (ow1.2 r hr).1.2, (ow1.2 r hr).2⟩⟩)) rfl hg ⟨.x _, rw1, trivial⟩).mono fun e W' ⟨he, hnx⟩ => ?_
  subst he
  refine ⟨_, rfl, _, _, _, [], p0 ++ (p1 ++ ([])), [], hW', ?_, ?_, rfl, hnx.frame _, fun h => by cases h⟩
  · exact trodAll_mk1 (shut_bool Tryz.underlying4 true)
  · exact hback W' hnx

theorem funcsTell_holds : Rows.FuncsTellSaid :=
  OpenClaim.holds_of_wide 3 Tryz.f3 rfl rfl rfl rfl rfl rfl rfl ⟨rfl, rfl, rfl, rfl, rfl⟩ rfl rfl rfl rfl rfl (by kernel_rfl) Tryz.func3 (by kernel_rfl)
    (of_decide_eq_true (by kernel_rfl)) (by unfold Func.isWrapper; rw [if_neg (of_decide_eq_false (by kernel_rfl))]; exact ⟨rfl, rfl⟩)
    (fun os started H enc _ => funcsTell_lifted os started H enc)

theorem funcsTell_card : Rows.FuncsTellCardSaid :=
  Claim7.holds_tied_plain_at .later [] Rows.funcsTellCard.laidKinds true Rows.funcsTellCard.stood.harness Rows.funcsTellCard.stood.looks
    funcsTell_holds (fun _ h => by cases h) (by kernel_rfl) (fun _ h => by cases h) funcsTell_row_tie rfl ⟨rfl, rfl⟩ (by kernel_rfl) rfl
    (fun f fn hf hfn => by
      obtain rfl : f = 3 := Option.some.inj ((show Tryz.prog.funcNamed "abacist/abacistlaw10.FuncsTell" = some 3 by kernel_rfl).symm.trans hf) |>.symm
      obtain rfl : fn = Tryz.f3 := (Option.some.inj (Tryz.func3.symm.trans hfn)).symm
      exact ⟨by kernel_rfl, fun j t ht => by
        rw [Tryz.params3] at ht
        have hm : t ∈ [9, 22] := by simpa using Array.mem_of_getElem? ht
        have hall : ([9, 22].all fun u => !Tryz.prog.wantsStandIn u) = true := by kernel_rfl
        exact (show Tryz.prog.wantsStandIn t = false by simpa using List.all_eq_true.1 hall t hm)⟩)
    (by kernel_rfl)
#print axioms funcsTell_card
end Go.Proofs.YtakcoalbidjahaaGreatDoor
