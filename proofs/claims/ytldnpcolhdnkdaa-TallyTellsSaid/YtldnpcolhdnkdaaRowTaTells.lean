/- Whatever rows of changes are handed in, the law function TallyTells returns true and its arguments read as before. No condition beyond the row's own. -/
import Derived.Test.YtldnpcolhdnkdaaMTx
import Derived.Test.YtldnpcolhdnkdaaFrameN
import Derived.Test.YtldnpcolhdnkdaaFrameM
import Derived.Test.YtldnpcolhdnkdaaFrame
namespace Go.Proofs.Ytldnpcolhdnkdaa
set_option linter.unusedSimpArgs false
set_option maxRecDepth 100000
open Go.ChangeShapes Go.WideShapes Go.ChangeAt Go.WideMaps Go.WideElems Go.RowKit Go.Joins
theorem tallyTells_lifted (os:Os) (started:os.Started) (H:Type) (enc:TypeId×Value->H):
 ReturnsInHanded {} Try.checked os 3 .any (Rows.tallyTellsSpec.pre6 enc Try.prog Try.f3 Rows.tallyTellsRow.domain false)
  (Rows.tallyTellsSpec.post enc Try.prog Try.f3 false true false false):=by
 have e:Rows.tallyTellsSpec.pre6 enc Try.prog Try.f3 Rows.tallyTellsRow.domain false=fun w args=>(Rows.tallyTellsSpec.pre enc Try.prog Try.f3 Rows.tallyTellsRow.domain false w args∧True)∧sizedMet enc Try.prog Try.f3 (OpenSpec.ofChange Rows.tallyTellsSpec) false w args:=by funext w args;show(_∧_)=_;rw[RE]
 rw[e]
 refine returnsInHanded_of_change_and (C:=Try.checked) (X:=fun _ _=>True) (fun _ _ _ _ h=>h) own started (by kernel_rfl) Try.func3
  (let ⟨w,t,i,h1,h2,h3,h4,h5,h6⟩:=ChangeSpec.witness6 (enc:=enc) (C:=Try.checked) false ⟨#[],#[.slice none 0 0],[]⟩ 8 (by kernel_rfl) (by kernel_rfl) (by kernel_rfl) (by kernel_rfl);⟨w,t,i,h1,h2,h3,h4,⟨⟨h5.1,trivial⟩,h5.2⟩,h6⟩) ?_
 intro W base args ds gs before hval0 hW _ hwt _ _;have hval:∀(j:Nat) t v,Try.f3.params[j]?=some t->args[j]?=some v->Value.okWide Try.prog W .any base t v:=hval0;have hW':=hW;obtain⟨p,q,hA0,hV,rfl,hfz,hnd⟩:=hW;have hA:DataW.TrodAll enc Try.prog W 0 (fun _=>true) true Try.f3.params.toList args.toList ds p:=hA0;rw[Try.params3] at hA hval;obtain⟨rfl,rfl⟩:=trodVars_none hV;have hg:Glob W:=⟨trivial⟩;clear hA0 hval0;simp only[QS] at hW';have hlt:∀x∈p,x.block<W.heap.size:=fun x hx=>by simpa using hW'.lt x hx
 have hback:∀W',Below W.heap.size W W'->DataW.TrodAll enc Try.prog W' 0 (fun b=>decide (b<W.heap.size)) true [22] args.toList ds p:=fun W' hb=>
  fk wu hb _ _ _ _ (by intro t ht;have h0:([22].all fun u=>Try.prog.readableRec u&&decide (u<Try.prog.types.size))=true:=(by kernel_rfl);have h1:=PJ.1 h0 t ht;simp only[PG,Qa] at h1;exact h1) hA hlt
 obtain⟨v0,vs0,d0,ds0,p0,q0,hargs,rfl,rfl,h0,r0⟩:=trodAll_cons hA;obtain⟨rfl,rfl,rfl⟩:=trodAll_nil r0;obtain rfl:args= #[v0]:=by cases args;simp_all
 obtain⟨w0,zw0,rw0⟩:=ot (hval 0 22 v0 rfl rfl) h0 (fun n hn=>by have hh:=PJ.1 hwt n (DataW.weights_mem_each (j:=0) (t:=22) (d:=d0) rfl rfl n hn);simpa using hh);refine(mJ rX (vs:= #[v0]) (us:=[yI w0]) ((bA mu uU w0).trans (PO zw0)) rfl hg ⟨rw0,trivial⟩).mono fun e W' ⟨he,hnx⟩=>?_
 subst he;refine⟨_,rfl,_,_,_,[],p0++([]),[],hW',?_,?_,rfl,hnx.frame _,fun h=>by cases h⟩
 . exact trodAll_mk1 (shut_bool Try.underlying4 true)
 . exact hback W' hnx
theorem tallyTells_holds:Rows.TallyTellsSaid:=
 OpenClaim.holds_of_wide 3 Try.f3 rfl rfl rfl rfl rfl rfl rfl ⟨rfl,rfl,rfl,rfl,rfl⟩ rfl rfl rfl rfl rfl (by kernel_rfl) Try.func3 (by kernel_rfl)
  (QA (by kernel_rfl)) (by unfold Func.isWrapper;rw[PS (RV (by kernel_rfl))];exact⟨rfl,rfl⟩)
  (fun os started H enc _=>tallyTells_lifted os started H enc)
#print axioms tallyTells_holds
end Go.Proofs.Ytldnpcolhdnkdaa
