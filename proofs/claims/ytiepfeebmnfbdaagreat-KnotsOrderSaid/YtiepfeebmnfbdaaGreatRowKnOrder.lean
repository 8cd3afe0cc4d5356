/- Whatever row of entries is handed in, KnotsOrder returns true and its arguments read as before. No condition beyond the row's own. -/
import Derived.Test.YtiepfeebmnfbdaaGreatMKe
import Derived.Test.YtiepfeebmnfbdaaGreatFrameI
namespace Go.Proofs.YtiepfeebmnfbdaaGreat
open _root_.Go.Proofs.Tryz
set_option linter.unusedSimpArgs false
set_option maxRecDepth 100000
open Go.ChangeShapes Go.WideShapes Go.ChangeAt Go.WideMaps Go.WideElems Go.RowKit Go.Joins
theorem knotsOrder_lifted(os:Os)(started:os.Started)(H:Type)(enc:TypeId×Value->H):
 ReturnsInHanded {} checked os 3 .any (Rows.knotsOrderSpec.pre6 enc prog f3 Rows.knotsOrderRow.domain false)
  (Rows.knotsOrderSpec.post enc prog f3 false true false false):=by
 have e:Rows.knotsOrderSpec.pre6 enc prog f3 Rows.knotsOrderRow.domain false=fun w args=>(Rows.knotsOrderSpec.pre enc prog f3 Rows.knotsOrderRow.domain false w args∧True)∧sizedMet enc prog f3 (OpenSpec.ofChange Rows.knotsOrderSpec) false w args:=by funext w args;show(_∧_)=_;rw[aeQ]
 rw[e]
 refine returnsInHanded_of_change_and (C:=checked) (X:=fun _ _=>True) (fun _ _ _ _ h=>h) own started A0a func3
  (let ⟨w,t,i,h1,h2,h3,h4,h5,h6⟩:=ChangeSpec.witness6 (enc:=enc) (C:=checked) false ⟨#[],#[.slice none 0 0],[]⟩ 8 A0a A0a A0a A0a;⟨w,t,i,h1,h2,h3,h4,⟨⟨h5.1,trivial⟩,h5.2⟩,h6⟩) ?_
 intro W base args ds gs before hval0 hW _ hwt _ _;have hval:∀(j:Nat) t v,f3.params[j]?=some t->args[j]?=some v->Value.okWide prog W .any base t v:=hval0;have hW':=hW;obtain⟨p,q,hA0,hV,rfl,hfz,hnd⟩:=hW;have hA:DataW.TrodAll enc prog W 0 (fun _=>true) true f3.params.toList args.toList ds p:=hA0;rw[params3] at hA hval;obtain⟨rfl,rfl⟩:=trodVars_none hV;have hg:Glob W:=⟨trivial⟩;simp only[aep] at hW';have hlt:∀x∈p,x.block<W.heap.size:=fun x hx=>by simpa using hW'.lt x hx
 have hback:∀W',Below W.heap.size W W'->DataW.TrodAll enc prog W' 0 (fun b=>decide (b<W.heap.size)) true [22] args.toList ds p:=fun W' hb=>
  lC Qu hb _ _ _ _ (by intro t ht;have h0:([22].all fun u=>prog.readableRec u&&decide (u<prog.types.size))=true:=A0a;have h1:=adr.1 h0 t ht;simp only[ado,adS] at h1;exact h1) hA hlt
 obtain⟨v0,vs0,d0,ds0,p0,q0,hargs,rfl,rfl,h0,r0⟩:=trodAll_cons hA;obtain⟨rfl,rfl,rfl⟩:=trodAll_nil r0;obtain rfl:args= #[v0]:=by cases args;simp_all
 obtain⟨w0,zw0,lw0,rw0⟩:=ml (hval 0 22 v0 rfl rfl) h0 (fun n hn=>by have hh:=adr.1 hwt n (DataW.weights_mem_each (j:=0) (t:=22) (d:=d0) rfl rfl n hn);simpa using hh);refine(C7 TH (vs:= #[v0]) (us:=[Zc w0]) ((ca jd GKo w0).trans (adl ⟨zw0,lw0⟩)) rfl hg ⟨rw0,trivial⟩).mono fun e W' ⟨he,hnx⟩=>?_
 subst he;refine⟨_,rfl,_,_,_,[],p0++([]),[],hW',?_,?_,rfl,hnx.frame _,fun h=>by cases h⟩
 . exact trodAll_mk1 (shut_bool underlying4 true)
 . exact hback W' hnx
theorem knotsOrder_holds:Rows.KnotsOrderSaid:=
 OpenClaim.holds_of_wide 3 f3 rfl rfl rfl rfl rfl rfl rfl ⟨rfl,rfl,rfl,rfl,rfl⟩ rfl rfl rfl rfl rfl A0a func3 A0a
  (adQ A0a) (by unfold Func.isWrapper;rw[adq (aff A0a)];exact⟨rfl,rfl⟩)
  (fun os started H enc _=>knotsOrder_lifted os started H enc)
#print axioms knotsOrder_holds
end Go.Proofs.YtiepfeebmnfbdaaGreat
