/- Rows of numbers among the arguments. -/
import Derived.Test.YtmfojhkjbkombaaGreatFrameG
import Derived.Test.YtmfojhkjbkombaaGreatMQ
namespace Go.Proofs.YtmfojhkjbkombaaGreat
set_option linter.unusedSimpArgs false
set_option maxRecDepth 100000
open Go.ChangeShapes Go.WideShapes Go.ChangeAt Go.WideMaps Go.WideElems Go.RowKit Go.Joins
theorem D7 {H:Type} {enc:TypeId×Value->H} {W:World} {r:Reach} {b0 base:Nat} {held:Bool} {v:Value} {d:DataW H} {p:List MemPlace} (hv:Value.okWide Tryz.prog W r b0 41 v) (h:DataW.Trod enc Tryz.prog W base (fun _=>true) held 41 v d p):
 ∃q:Bool×Nat×List Int,(q.2.2≠[]->q.2.1=1)∧Rd (fun _=>none) W v (.sl q.1 q.2.1 (q.2.2.map aq) none):=by
 obtain⟨a,n,c,rfl⟩:=okWide_slice Tryz.underlying41 hv;obtain⟨fuel,hf⟩:=h;rcases pf (K:=1) (f:=aq) (Pr:=fun _=>True) Tryz.underlying41 A0a A0c (fun _=>rfl) (fun _ cs _ h _=>by obtain⟨k,e1,_,_⟩:=DataW.trod_int Tryz.underlying3 h;subst e1;exact⟨k,trivial,.x _,trivial⟩) hf with e|⟨l,_,hr⟩
 . exact⟨(true,0,[]),fun h=>absurd rfl h,by rw[e];exact .nil _ _⟩
 . exact⟨(false,1,l),fun _=>rfl,hr⟩
end Go.Proofs.YtmfojhkjbkombaaGreat
