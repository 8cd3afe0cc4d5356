/- Whatever row of acts and stamp are handed in, the law function FrontPlays returns true and its arguments read as before. No condition beyond the row's own. -/
import Derived.Test.YtenmccehpkiamaaMFz
import Derived.Test.YtenmccehpkiamaaFrameN
import Derived.Test.YtenmccehpkiamaaFrameK
import Derived.Test.YtenmccehpkiamaaFrameL
import Derived.Test.YtenmccehpkiamaaFrame
namespace Go.Proofs.Ytenmccehpkiamaa
set_option linter.unusedSimpArgs false
set_option maxRecDepth 100000
open Go.ChangeShapes Go.WideShapes Go.ChangeAt Go.WideMaps Go.WideElems Go.RowKit Go.Joins
theorem frontPlays_lifted (os:Os) (started:os.Started) (H:Type) (enc:TypeId×Value->H):
 ReturnsInHanded {} Try.checked os 3 .any (Rows.frontPlaysSpec.pre6 enc Try.prog Try.f3 Rows.frontPlaysRow.domain false)
  (Rows.frontPlaysSpec.post enc Try.prog Try.f3 false true false false):=by
 refine returnsInHanded_of_change (C:=Try.checked) own started (by kernel_rfl) Try.func3
  (ChangeSpec.witness6 (enc:=enc) (C:=Try.checked) false ⟨#[],#[.slice none 0 0,.agg #[.int .i64 0,.int .i64 0,.int .i64 0]],[]⟩ 8 (by kernel_rfl) (by kernel_rfl) (by kernel_rfl) (by kernel_rfl)) ?_
 intro W base args ds gs before hval0 hW hcnd _;have hval:∀(j:Nat) t v,Try.f3.params[j]?=some t->args[j]?=some v->Value.okWide Try.prog W .any base t v:=hval0;have hW':=hW;obtain⟨p,q,hA0,hV,rfl,hfz,hnd⟩:=hW;have hA:DataW.TrodAll enc Try.prog W 0 (fun _=>true) true Try.f3.params.toList args.toList ds p:=hA0;rw[Try.params3] at hA hval;obtain⟨rfl,rfl⟩:=trodVars_none hV;have hg:Glob W:=⟨trivial⟩;clear hA0 hval0;simp only[MV] at hW';have hlt:∀x∈p,x.block<W.heap.size:=fun x hx=>by simpa using hW'.lt x hx
 have hback:∀W',Below W.heap.size W W'->DataW.TrodAll enc Try.prog W' 0 (fun b=>decide (b<W.heap.size)) true [22,24] args.toList ds p:=fun W' hb=>
  eo tC hb _ _ _ _ (by intro t ht;have h0:([22,24].all fun u=>Try.prog.readableRec u&&decide (u<Try.prog.types.size))=true:=(by kernel_rfl);have h1:=LU.1 h0 t ht;simp only[LR,Mi] at h1;exact h1) hA hlt
 obtain⟨v0,vs0,d0,ds0,p0,q0,hargs,rfl,rfl,h0,r0⟩:=trodAll_cons hA;obtain⟨v1,vs1,d1,ds1,p1,q1,rfl,rfl,rfl,h1,r1⟩:=trodAll_cons r0;obtain⟨rfl,rfl,rfl⟩:=trodAll_nil r1;obtain rfl:args= #[v0,v1]:=by cases args;simp_all
 obtain⟨w0,zw0,rw0⟩:=me (hval 0 22 v0 rfl rfl) h0;obtain⟨sa1,sb1,sc1,rfl⟩:=kP (hval 1 24 v1 rfl rfl) h1;refine(kO pI (vs:= #[v0,.agg #[.int .i64 sa1,.int .i64 sb1,.int .i64 sc1]]) (us:=[.sl w0.1 w0.2.1 (w0.2.2.map bB) none,.agg [.x (.int .i64 sa1),.x (.int .i64 sb1),.x (.int .i64 sc1)]]) ((c9 pH EP (w0,(sa1,sb1,sc1))).trans (L0 zw0)) rfl hg ⟨rw0,pJ _ _ _,trivial⟩).mono fun e W' ⟨he,hnx⟩=>?_
 subst he;refine⟨_,rfl,_,_,_,[],p0++(p1++([])),[],hW',?_,?_,rfl,hnx.frame _,fun h=>by cases h⟩
 . exact trodAll_mk1 (shut_bool Try.underlying4 true)
 . exact hback W' hnx
theorem frontPlays_holds:Rows.FrontPlaysSaid:=
 OpenClaim.holds_of_wide 3 Try.f3 rfl rfl rfl rfl rfl rfl rfl ⟨rfl,rfl,rfl,rfl,rfl⟩ rfl rfl rfl rfl rfl (by kernel_rfl) Try.func3 (by kernel_rfl)
  (MW (by kernel_rfl)) (by unfold Func.isWrapper;rw[L1 (NN (by kernel_rfl))];exact⟨rfl,rfl⟩)
  (fun os started H enc _=>frontPlays_lifted os started H enc)
#print axioms frontPlays_holds
end Go.Proofs.Ytenmccehpkiamaa
