/- Whatever two numbers and truth are handed in, the law function KnotsRing returns true and its arguments read as before. No condition beyond the row's own. -/
import Derived.Test.YtmfojhkjbkombaaMKe
import Derived.Test.YtmfojhkjbkombaaFrameN
import Derived.Test.YtmfojhkjbkombaaFrameT
import Derived.Test.YtmfojhkjbkombaaFrame
namespace Go.Proofs.Ytmfojhkjbkombaa
set_option linter.unusedSimpArgs false
set_option maxRecDepth 100000
open Go.ChangeShapes Go.WideShapes Go.ChangeAt Go.WideMaps Go.WideElems Go.RowKit Go.Joins
theorem knotsRing_lifted (os:Os) (started:os.Started) (H:Type) (enc:TypeId×Value->H):
 ReturnsInHanded {} Try.checked os 3 .any (Rows.knotsRingSpec.pre6 enc Try.prog Try.f3 Rows.knotsRingRow.domain false)
  (Rows.knotsRingSpec.post enc Try.prog Try.f3 false true false false):=by
 refine returnsInHanded_of_change (C:=Try.checked) own started A0a Try.func3
  (ChangeSpec.witness6 (enc:=enc) (C:=Try.checked) false ⟨#[],#[.int .i64 0,.int .i64 0,.bool false],[]⟩ 8 A0a A0a A0a A0a) ?_
 intro W base args ds gs before hval0 hW hcnd _;have hval:∀(j:Nat) t v,Try.f3.params[j]?=some t->args[j]?=some v->Value.okWide Try.prog W .any base t v:=hval0;have hW':=hW;obtain⟨p,q,hA0,hV,rfl,hfz,hnd⟩:=hW;have hA:DataW.TrodAll enc Try.prog W 0 (fun _=>true) true Try.f3.params.toList args.toList ds p:=hA0;rw[Try.params3] at hA hval;obtain⟨rfl,rfl⟩:=trodVars_none hV;have hg:Glob W:=⟨trivial⟩;clear hA0 hval0;simp only[aaw] at hW';have hlt:∀x∈p,x.block<W.heap.size:=fun x hx=>by simpa using hW'.lt x hx
 have hback:∀W',Below W.heap.size W W'->DataW.TrodAll enc Try.prog W' 0 (fun b=>decide (b<W.heap.size)) true [3,3,4] args.toList ds p:=fun W' hb=>
  jJ L7 hb _ _ _ _ (by intro t ht;have h0:([3,3,4].all fun u=>Try.prog.readableRec u&&decide (u<Try.prog.types.size))=true:=A0a;have h1:=Zw.1 h0 t ht;simp only[Zq,ZV] at h1;exact h1) hA hlt
 obtain⟨v0,vs0,d0,ds0,p0,q0,hargs,rfl,rfl,h0,r0⟩:=trodAll_cons hA;obtain⟨v1,vs1,d1,ds1,p1,q1,rfl,rfl,rfl,h1,r1⟩:=trodAll_cons r0;obtain⟨v2,vs2,d2,ds2,p2,q2,rfl,rfl,rfl,h2,r2⟩:=trodAll_cons r1;obtain⟨rfl,rfl,rfl⟩:=trodAll_nil r2;obtain rfl:args= #[v0,v1,v2]:=by cases args;simp_all
 obtain⟨n0,rfl,bl0,bh0⟩:=wM (hval 0 3 v0 rfl rfl) h0;obtain⟨n1,rfl,bl1,bh1⟩:=wM (hval 1 3 v1 rfl rfl) h1;obtain⟨b2,rfl⟩:=z6 (hval 2 4 v2 rfl rfl) h2;refine(zZ I3 (vs:= #[.int .i64 n0,.int .i64 n1,.bool b2]) (us:=[.x (.int .i64 n0),.x (.int .i64 n1),.x (.bool b2)]) rfl rfl hg ⟨.x _,.x _,.x _,trivial⟩).mono fun e W' ⟨he,hnx⟩=>?_
 subst he;refine⟨_,rfl,_,_,_,[],p0++(p1++(p2++([]))),[],hW',?_,?_,rfl,hnx.frame _,fun h=>by cases h⟩
 . exact trodAll_mk1 (shut_bool Try.underlying4 true)
 . exact hback W' hnx
theorem knotsRing_holds:Rows.KnotsRingSaid:=
 OpenClaim.holds_of_wide 3 Try.f3 rfl rfl rfl rfl rfl rfl rfl ⟨rfl,rfl,rfl,rfl,rfl⟩ rfl rfl rfl rfl rfl A0a Try.func3 A0a
  (ZO A0a) (by unfold Func.isWrapper;rw[Zs (abl A0a)];exact⟨rfl,rfl⟩)
  (fun os started H enc _=>knotsRing_lifted os started H enc)
#print axioms knotsRing_holds
end Go.Proofs.Ytmfojhkjbkombaa
