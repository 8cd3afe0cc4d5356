/- Whatever node and two texts are handed in, the law function RewriteBack returns true and its arguments read as before (a list of Kids that has itself as an element is not spoken of). -/
import Derived.Test.YtacclfepjpmfoaaMX
import Derived.Test.YtacclfepjpmfoaaFrameN
import Derived.Test.YtacclfepjpmfoaaFrameC
import Derived.Test.YtacclfepjpmfoaaFrameT
import Derived.Test.YtacclfepjpmfoaaFrame
namespace Go.Proofs.Ytacclfepjpmfoaa
open Go.ChangeShapes Go.WideShapes Go.ChangeAt Go.WideMaps Go.WideElems Go.RowKit Go.Joins

set_option maxRecDepth 100000 in
theorem rewriteBack_lifted (os : Os) (started : os.Started) (H : Type) (enc : TypeId × Value → H) :
    ReturnsInHanded {} Try.checked os 4 .any (Rows.rewriteBackSpec.pre6 enc Try.prog Try.f4 Rows.rewriteBackRow.domain false)
      (Rows.rewriteBackSpec.post enc Try.prog Try.f4 false true false false) := by
  refine returnsInHanded_of_change (C := Try.checked) own started (by kernel_rfl) Try.func4
    (ChangeSpec.witness6 (enc := enc) (C := Try.checked) false ⟨#[], #[.agg #[.int .i64 0, .string ⟨#[]⟩, .string ⟨#[]⟩, .int .i64 0, .int .i64 0, .string ⟨#[]⟩, .string ⟨#[]⟩, .int .i64 0, .int .i64 0, .string ⟨#[]⟩, .int .i64 0, .int .i64 0, .slice none 0 0], .string ⟨#[]⟩, .string ⟨#[]⟩], []⟩ 8 (by kernel_rfl) (by kernel_rfl) (by kernel_rfl) (by kernel_rfl)) ?_
  intro W base args ds gs before hval0 hW hcnd _
  have hval : ∀ (j : Nat) t v, Try.f4.params[j]? = some t → args[j]? = some v → Value.okWide Try.prog W .any base t v := hval0
  have hW' := hW
  obtain ⟨p, q, hA0, hV, rfl, hfz, hnd⟩ := hW
  have hA : DataW.TrodAll enc Try.prog W 0 (fun _ => true) true Try.f4.params.toList args.toList ds p := hA0
  rw [Try.params4] at hA hval
  obtain ⟨rfl, rfl⟩ := trodVars_none hV
  have hg : Glob W := ⟨trivial⟩
  clear hA0 hval0
  simp only [List.append_nil] at hW'
  have hlt : ∀ x ∈ p, x.block < W.heap.size := fun x hx => by simpa using hW'.lt x hx
  have hback : ∀ W', Below W.heap.size W W' → DataW.TrodAll enc Try.prog W' 0 (fun b => decide (b < W.heap.size)) true [28, 9, 9] args.toList ds p := fun W' hb =>
    trodAll_below laidOut hb _ _ _ _ (by intro t ht; have h0 : ([28, 9, 9].all fun u => Try.prog.readableRec u && decide (u < Try.prog.types.size)) = true := (by kernel_rfl); have h1 := List.all_eq_true.1 h0 t ht; simp only [Bool.and_eq_true, decide_eq_true_eq] at h1; exact h1) hA hlt
  obtain ⟨v0, vs0, d0, ds0, p0, q0, hargs, rfl, rfl, h0, r0⟩ := trodAll_cons hA
  obtain ⟨v1, vs1, d1, ds1, p1, q1, rfl, rfl, rfl, h1, r1⟩ := trodAll_cons r0
  obtain ⟨v2, vs2, d2, ds2, p2, q2, rfl, rfl, rfl, h2, r2⟩ := trodAll_cons r1
  obtain ⟨rfl, rfl, rfl⟩ := trodAll_nil r2
  obtain rfl : args = #[v0, v1, v2] := by cases args; simp_all
  obtain ⟨n0, rn0⟩ := open_node (hval 0 28 v0 rfl rfl) h0
  obtain ⟨t1, rfl, bt1⟩ := open_text (hval 1 9 v1 rfl rfl) h1
  obtain ⟨t2, rfl, bt2⟩ := open_text (hval 2 9 v2 rfl rfl) h2
  refine (law_of_fun back9_fun (vs := #[v0, .string t1, .string t2]) (us := [nodeV n0, .x (.string t1), .x (.string t2)]) (FE_at encRn_inj GLaw9 (n0, t1, t2)) (by rw [List.all_cons, node_dat]; rfl) hg ⟨rn0, .x _, .x _, trivial⟩).mono fun e W' ⟨he, hnx⟩ => ?_
  subst he
  refine ⟨_, rfl, _, _, _, [], p0 ++ (p1 ++ (p2 ++ ([]))), [], hW', ?_, ?_, rfl, hnx.frame _, fun h => by cases h⟩
  · exact trodAll_mk1 (shut_bool Try.underlying4 true)
  · exact hback W' hnx

theorem rewriteBack_holds : Rows.RewriteBackSaid :=
  OpenClaim.holds_of_wide 4 Try.f4 rfl rfl rfl rfl rfl rfl rfl ⟨rfl, rfl, rfl, rfl, rfl⟩ rfl rfl rfl rfl rfl (by kernel_rfl) Try.func4 (by kernel_rfl)
    (of_decide_eq_true (by kernel_rfl)) (by unfold Func.isWrapper; rw [if_neg (of_decide_eq_false (by kernel_rfl))]; exact ⟨rfl, rfl⟩)
    (fun os started H enc _ => rewriteBack_lifted os started H enc)

#print axioms rewriteBack_holds
end Go.Proofs.Ytacclfepjpmfoaa
