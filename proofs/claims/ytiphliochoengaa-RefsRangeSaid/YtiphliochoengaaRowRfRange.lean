/- Whatever two cells and two numbers are handed in, the law function RefsRange returns true and its arguments read as before. -/
import Derived.Test.YtiphliochoengaaMH
import Derived.Test.YtiphliochoengaaMJ
import Derived.Test.YtiphliochoengaaMU
import Derived.Test.YtiphliochoengaaFrameN
import Derived.Test.YtiphliochoengaaFrameC
import Derived.Test.YtiphliochoengaaFrameT
import Derived.Test.YtiphliochoengaaFrame
namespace Go.Proofs.Ytiphliochoengaa
open Go.ChangeShapes Go.WideShapes Go.ChangeAt Go.WideMaps Go.WideElems Go.RowKit Go.Joins

set_option maxRecDepth 100000 in
theorem refsRange_lifted (os : Os) (started : os.Started) (H : Type) (enc : TypeId × Value → H) :
    ReturnsInHanded {} Try.checked os 4 .any (Rows.refsRangeSpec.pre6 enc Try.prog Try.f4 Rows.refsRangeRow.domain false)
      (Rows.refsRangeSpec.post enc Try.prog Try.f4 false true false false) := by
  refine returnsInHanded_of_change (C := Try.checked) own started (by kernel_rfl) Try.func4
    (ChangeSpec.witness6 (enc := enc) (C := Try.checked) false ⟨#[], #[.agg #[.string ⟨#[]⟩, .int .i64 0, .int .i64 0], .int .i64 0, .int .i64 0, .agg #[.string ⟨#[]⟩, .int .i64 0, .int .i64 0]], []⟩ 8 (by kernel_rfl) (by kernel_rfl) (by kernel_rfl) (by kernel_rfl)) ?_
  intro W base args ds gs before hval0 hW hcnd _
  have hval : ∀ (j : Nat) t v, Try.f4.params[j]? = some t → args[j]? = some v → Value.okWide Try.prog W .any base t v := hval0
  have hW' := hW
  obtain ⟨p, q, hA0, hV, rfl, hfz, hnd⟩ := hW
  have hA : DataW.TrodAll enc Try.prog W 0 (fun _ => true) true Try.f4.params.toList args.toList ds p := hA0
  rw [Try.params4] at hA hval
  obtain ⟨rfl, rfl⟩ := trodVars_none hV
  have hg : Glob W := ⟨trivial⟩
  clear hA0 hval0
  simp only [List.append_nil] at hW'
  have hlt : ∀ x ∈ p, x.block < W.heap.size := fun x hx => by simpa using hW'.lt x hx
  have hback : ∀ W', Below W.heap.size W W' → DataW.TrodAll enc Try.prog W' 0 (fun b => decide (b < W.heap.size)) true [25, 3, 3, 25] args.toList ds p := fun W' hb =>
    trodAll_below laidOut hb _ _ _ _ (by intro t ht; have h0 : ([25, 3, 3, 25].all fun u => Try.prog.readableRec u && decide (u < Try.prog.types.size)) = true := (by kernel_rfl); have h1 := List.all_eq_true.1 h0 t ht; simp only [Bool.and_eq_true, decide_eq_true_eq] at h1; exact h1) hA hlt
  obtain ⟨v0, vs0, d0, ds0, p0, q0, hargs, rfl, rfl, h0, r0⟩ := trodAll_cons hA
  obtain ⟨v1, vs1, d1, ds1, p1, q1, rfl, rfl, rfl, h1, r1⟩ := trodAll_cons r0
  obtain ⟨v2, vs2, d2, ds2, p2, q2, rfl, rfl, rfl, h2, r2⟩ := trodAll_cons r1
  obtain ⟨v3, vs3, d3, ds3, p3, q3, rfl, rfl, rfl, h3, r3⟩ := trodAll_cons r2
  obtain ⟨rfl, rfl, rfl⟩ := trodAll_nil r3
  obtain rfl : args = #[v0, v1, v2, v3] := by cases args; simp_all
  obtain ⟨s0, k0, n0, rfl⟩ := open_cell (hval 0 25 v0 rfl rfl) h0
  obtain ⟨n1, rfl, bl1, bh1⟩ := open_num (hval 1 3 v1 rfl rfl) h1
  obtain ⟨n2, rfl, bl2, bh2⟩ := open_num (hval 2 3 v2 rfl rfl) h2
  obtain ⟨s3, k3, n3, rfl⟩ := open_cell (hval 3 25 v3 rfl rfl) h3
  refine (law_of_fun (range8_fun cellsP_fun) (vs := #[.agg #[.string s0, .int .i64 k0, .int .i64 n0], .int .i64 n1, .int .i64 n2, .agg #[.string s3, .int .i64 k3, .int .i64 n3]]) (us := [.agg [.x (.string s0), .x (.int .i64 k0), .x (.int .i64 n0)], .x (.int .i64 n1), .x (.int .i64 n2), .agg [.x (.string s3), .x (.int .i64 k3), .x (.int .i64 n3)]]) rfl rfl hg ⟨rd_cell _ _ _, .x _, .x _, rd_cell _ _ _, trivial⟩).mono fun e W' ⟨he, hnx⟩ => ?_
  subst he
  refine ⟨_, rfl, _, _, _, [], p0 ++ (p1 ++ (p2 ++ (p3 ++ ([])))), [], hW', ?_, ?_, rfl, hnx.frame _, fun h => by cases h⟩
  · exact trodAll_mk1 (shut_bool Try.underlying4 true)
  · exact hback W' hnx

theorem refsRange_holds : Rows.RefsRangeSaid :=
  OpenClaim.holds_of_wide 4 Try.f4 rfl rfl rfl rfl rfl rfl rfl ⟨rfl, rfl, rfl, rfl, rfl⟩ rfl rfl rfl rfl rfl (by kernel_rfl) Try.func4 (by kernel_rfl)
    (of_decide_eq_true (by kernel_rfl)) (by unfold Func.isWrapper; rw [if_neg (of_decide_eq_false (by kernel_rfl))]; exact ⟨rfl, rfl⟩)
    (fun os started H enc _ => refsRange_lifted os started H enc)

#print axioms refsRange_holds
end Go.Proofs.Ytiphliochoengaa
