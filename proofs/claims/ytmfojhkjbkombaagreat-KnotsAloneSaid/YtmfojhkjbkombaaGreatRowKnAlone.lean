/- Whatever row of numbers is handed in, the law function KnotsAlone returns true and its arguments read as before. No condition beyond the row's own. -/
import Derived.Test.YtmfojhkjbkombaaGreatMKe
import Derived.Test.YtmfojhkjbkombaaGreatFrameN
import Derived.Test.YtmfojhkjbkombaaGreatFrameT
import Derived.Test.YtmfojhkjbkombaaGreatFrameJ
import Derived.Test.YtmfojhkjbkombaaGreatFrame
namespace Go.Proofs.YtmfojhkjbkombaaGreat
set_option linter.unusedSimpArgs false
set_option maxRecDepth 100000
open Go.ChangeShapes Go.WideShapes Go.ChangeAt Go.WideMaps Go.WideElems Go.RowKit Go.Joins
theorem knotsAlone_lifted (os:Os) (started:os.Started) (H:Type) (enc:TypeId×Value->H):
 ReturnsInHanded {} Tryz.checked os 5 .any (Rows.knotsAloneSpec.pre6 enc Tryz.prog Tryz.f5 Rows.knotsAloneRow.domain false)
  (Rows.knotsAloneSpec.post enc Tryz.prog Tryz.f5 false true false false):=by
 refine returnsInHanded_of_change (C:=Tryz.checked) own started A0a Tryz.func5
  (ChangeSpec.witness6 (enc:=enc) (C:=Tryz.checked) false ⟨#[],#[.slice none 0 0],[]⟩ 8 A0a A0a A0a A0a) ?_
 intro W base args ds gs before hval0 hW hcnd _;have hval:∀(j:Nat) t v,Tryz.f5.params[j]?=some t->args[j]?=some v->Value.okWide Tryz.prog W .any base t v:=hval0;have hW':=hW;obtain⟨p,q,hA0,hV,rfl,hfz,hnd⟩:=hW;have hA:DataW.TrodAll enc Tryz.prog W 0 (fun _=>true) true Tryz.f5.params.toList args.toList ds p:=hA0;rw[Tryz.params5] at hA hval;obtain⟨rfl,rfl⟩:=trodVars_none hV;have hg:Glob W:=⟨trivial⟩;clear hA0 hval0;simp only[Z9] at hW';have hlt:∀x∈p,x.block<W.heap.size:=fun x hx=>by simpa using hW'.lt x hx
 have hback:∀W',Below W.heap.size W W'->DataW.TrodAll enc Tryz.prog W' 0 (fun b=>decide (b<W.heap.size)) true [41] args.toList ds p:=fun W' hb=>
  jB LS hb _ _ _ _ (by intro t ht;have h0:([41].all fun u=>Tryz.prog.readableRec u&&decide (u<Tryz.prog.types.size))=true:=A0a;have h1:=YK.1 h0 t ht;simp only[YH,Zh] at h1;exact h1) hA hlt
 obtain⟨v0,vs0,d0,ds0,p0,q0,hargs,rfl,rfl,h0,r0⟩:=trodAll_cons hA;obtain⟨rfl,rfl,rfl⟩:=trodAll_nil r0;obtain rfl:args= #[v0]:=by cases args;simp_all
 obtain⟨w0,zw0,rw0⟩:=D7 (hval 0 41 v0 rfl rfl) h0;refine(zI D6 (vs:= #[v0]) (us:=[.sl w0.1 w0.2.1 (w0.2.2.map aq) none]) ((cq v8 zH w0).trans (YG zw0)) rfl hg ⟨rw0,trivial⟩).mono fun e W' ⟨he,hnx⟩=>?_
 subst he;refine⟨_,rfl,_,_,_,[],p0++([]),[],hW',?_,?_,rfl,hnx.frame _,fun h=>by cases h⟩
 . exact trodAll_mk1 (shut_bool Tryz.underlying4 true)
 . exact hback W' hnx
theorem knotsAlone_holds:Rows.KnotsAloneSaid:=
 OpenClaim.holds_of_wide 5 Tryz.f5 rfl rfl rfl rfl rfl rfl rfl ⟨rfl,rfl,rfl,rfl,rfl⟩ rfl rfl rfl rfl rfl A0a Tryz.func5 A0a
  (Y9 A0a) (by unfold Func.isWrapper;rw[YL (aaD A0a)];exact⟨rfl,rfl⟩)
  (fun os started H enc _=>knotsAlone_lifted os started H enc)
#print axioms knotsAlone_holds
end Go.Proofs.YtmfojhkjbkombaaGreat
