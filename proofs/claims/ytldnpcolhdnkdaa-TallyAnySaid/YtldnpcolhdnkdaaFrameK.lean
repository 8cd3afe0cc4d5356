/- Stamps and rows of truths among the arguments. -/
import Derived.Test.YtldnpcolhdnkdaaFrameG
import Derived.Test.YtldnpcolhdnkdaaMSt
namespace Go.Proofs.Ytldnpcolhdnkdaa
set_option linter.unusedSimpArgs false
set_option maxRecDepth 100000
open Go.ChangeShapes Go.WideShapes Go.ChangeAt Go.WideMaps Go.WideElems Go.RowKit Go.Joins
theorem vj {H:Type} {enc:TypeId×Value->H} {W:World} {r:Reach} {b0 base:Nat} {sp:Nat->Bool} {held:Bool} {v:Value} {d:DataW H} {p:List MemPlace} (hv:Value.okWide Try.prog W r b0 32 v) (h:DataW.Trod enc Try.prog W base sp held 32 v d p):
 ∃a k n:Int,v= .agg #[.int .i64 a,.int .i64 k,.int .i64 n]:=by
 obtain⟨v0,v1,v2,y0,y1,y2,m,rfl,rfl,_,h0,h1,h2⟩:=open_agg3 Try.underlying32 (by kernel_rfl) (by kernel_rfl) hv h;obtain⟨a,e0,e0',wa⟩:=DataW.trod_int Try.underlying3 h0;obtain⟨k,e1,e1',wk⟩:=DataW.trod_int Try.underlying3 h1;obtain⟨n,e2,e2',wn⟩:=DataW.trod_int Try.underlying3 h2;simp at e0 e1 e2;subst e0 e1 e2;exact⟨a,k,n,rfl⟩
theorem Dn {m:Lim} {w:World} (a b c:Value):Rd m w (.agg #[a,b,c]) (.agg [.x a,.x b,.x c]):=Rd.agg_iff.2 ⟨_,rfl,.x _,.x _,.x _,trivial⟩
end Go.Proofs.Ytldnpcolhdnkdaa
