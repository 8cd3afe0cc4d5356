/- Numbers and texts among the arguments; from a law as a function of plain data to what its row asks. -/
import Derived.Test.YtldnpcolhdnkdaaFrame
import Derived.Test.YtldnpcolhdnkdaaMPO
import Derived.Test.YtldnpcolhdnkdaaArithP
namespace Go.Proofs.Ytldnpcolhdnkdaa
set_option linter.unusedSimpArgs false
set_option maxRecDepth 100000
open Go.ChangeShapes Go.WideShapes Go.ChangeAt Go.WideMaps Go.WideElems Go.RowKit Go.Joins
theorem mJ {f:FuncId} {F:List V->Option V} (h:ij f F) {us:List V} (hF:F us=some (.x (.bool true))) (hd:us.all V.dat=true) {vs:Array Value} {W:World} (hg:Glob W) (hr:RdL (fun _=>none) W vs.toList us):
 Calls Try.prog f vs W fun e W'=>e= .returned (.bool true)∧Below W.heap.size W W':=by
 refine(h.2 (fun _=>none) W vs us _ hF hd hr hg (fun _=> .undef _)).mono ?_;rintro e W' ⟨v,m',rfl,hv,hb,_⟩;rw[Rd.x_iff.1 hv];exact⟨rfl,hb⟩
end Go.Proofs.Ytldnpcolhdnkdaa
