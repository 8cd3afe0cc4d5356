/- Whatever row of entries and cell are handed in, the law function DepsTell returns true and its arguments read as before. No condition beyond the row's own (a list of Kids that has itself as an element is not spoken of). -/
import Derived.Test.YtalkmhjanlljhaaGreatMX
import Derived.Test.YtalkmhjanlljhaaGreatFrameN
import Derived.Test.YtalkmhjanlljhaaGreatFrameT
import Derived.Test.YtalkmhjanlljhaaGreatFrameC
import Derived.Test.YtalkmhjanlljhaaGreatFrameI
import Derived.Test.YtalkmhjanlljhaaGreatFrame
namespace Go.Proofs.YtalkmhjanlljhaaGreat
set_option linter.unusedSimpArgs false
set_option maxRecDepth 100000
open Go.ChangeShapes Go.WideShapes Go.ChangeAt Go.WideMaps Go.WideElems Go.RowKit Go.Joins
theorem depsTell_lifted (os:Os) (started:os.Started) (H:Type) (enc:TypeId×Value->H):
 ReturnsInHanded {} Tryz.checked os 3 .any (Rows.depsTellSpec.pre6 enc Tryz.prog Tryz.f3 Rows.depsTellRow.domain false)
  (Rows.depsTellSpec.post enc Tryz.prog Tryz.f3 false true false false):=by
 have e:Rows.depsTellSpec.pre6 enc Tryz.prog Tryz.f3 Rows.depsTellRow.domain false=fun w args=>(Rows.depsTellSpec.pre enc Tryz.prog Tryz.f3 Rows.depsTellRow.domain false w args∧True)∧sizedMet enc Tryz.prog Tryz.f3 (OpenSpec.ofChange Rows.depsTellSpec) false w args:=by funext w args;show(_∧_)=_;rw[Wx]
 rw[e]
 refine returnsInHanded_of_change_and (C:=Tryz.checked) (X:=fun _ _=>True) (fun _ _ _ _ h=>h) own started (by kernel_rfl) Tryz.func3
  (let ⟨w,t,i,h1,h2,h3,h4,h5,h6⟩:=ChangeSpec.witness6 (enc:=enc) (C:=Tryz.checked) false ⟨#[],#[.slice none 0 0,.agg #[.string ⟨#[]⟩,.int .i64 0,.int .i64 0]],[]⟩ 8 (by kernel_rfl) (by kernel_rfl) (by kernel_rfl) (by kernel_rfl);⟨w,t,i,h1,h2,h3,h4,⟨⟨h5.1,trivial⟩,h5.2⟩,h6⟩) ?_
 intro W base args ds gs before hval0 hW _ hwt _ _;have hval:∀(j:Nat) t v,Tryz.f3.params[j]?=some t->args[j]?=some v->Value.okWide Tryz.prog W .any base t v:=hval0;have hW':=hW;obtain⟨p,q,hA0,hV,rfl,hfz,hnd⟩:=hW;have hA:DataW.TrodAll enc Tryz.prog W 0 (fun _=>true) true Tryz.f3.params.toList args.toList ds p:=hA0;rw[Tryz.params3] at hA hval;obtain⟨rfl,rfl⟩:=trodVars_none hV;have hg:Glob W:=⟨trivial⟩;clear hA0 hval0;simp only[Wq] at hW';have hlt:∀x∈p,x.block<W.heap.size:=fun x hx=>by simpa using hW'.lt x hx
 have hback:∀W',Below W.heap.size W W'->DataW.TrodAll enc Tryz.prog W' 0 (fun b=>decide (b<W.heap.size)) true [22,24] args.toList ds p:=fun W' hb=>
  jT I1 hb _ _ _ _ (by intro t ht;have h0:([22,24].all fun u=>Tryz.prog.readableRec u&&decide (u<Tryz.prog.types.size))=true:=(by kernel_rfl);have h1:=U8.1 h0 t ht;simp only[U6,Vz] at h1;exact h1) hA hlt
 obtain⟨v0,vs0,d0,ds0,p0,q0,hargs,rfl,rfl,h0,r0⟩:=trodAll_cons hA;obtain⟨v1,vs1,d1,ds1,p1,q1,rfl,rfl,rfl,h1,r1⟩:=trodAll_cons r0;obtain⟨rfl,rfl,rfl⟩:=trodAll_nil r1;obtain rfl:args= #[v0,v1]:=by cases args;simp_all
 obtain⟨w0,zw0,lw0,rw0⟩:=kp (hval 0 22 v0 rfl rfl) h0 (fun n hn=>by have hh:=U8.1 hwt n (DataW.weights_mem_each (j:=0) (t:=22) (d:=d0) rfl rfl n hn);simpa using hh);obtain⟨cs1,ck1,cr1,rfl⟩:=Cv (hval 1 24 v1 rfl rfl) h1;refine(yg oX (vs:= #[v0,.agg #[.string cs1,.int .i64 ck1,.int .i64 cr1]]) (us:=[QQ w0,aa (cs1,ck1,cr1)]) ((bC Ct Ue (w0,(cs1,ck1,cr1))).trans (Va ⟨zw0,lw0⟩)) rfl hg ⟨rw0,I2 _ _ _,trivial⟩).mono fun e W' ⟨he,hnx⟩=>?_
 subst he;refine⟨_,rfl,_,_,_,[],p0++(p1++([])),[],hW',?_,?_,rfl,hnx.frame _,fun h=>by cases h⟩
 . exact trodAll_mk1 (shut_bool Tryz.underlying4 true)
 . exact hback W' hnx
theorem depsTell_holds:Rows.DepsTellSaid:=
 OpenClaim.holds_of_wide 3 Tryz.f3 rfl rfl rfl rfl rfl rfl rfl ⟨rfl,rfl,rfl,rfl,rfl⟩ rfl rfl rfl rfl rfl (by kernel_rfl) Tryz.func3 (by kernel_rfl)
  (Vw (by kernel_rfl)) (by unfold Func.isWrapper;rw[Vh (WE (by kernel_rfl))];exact⟨rfl,rfl⟩)
  (fun os started H enc _=>depsTell_lifted os started H enc)
#print axioms depsTell_holds
end Go.Proofs.YtalkmhjanlljhaaGreat
