/- FrameN -/
import Derived.Test.YtiepfeebmnfbdaaGreatFrame
import Derived.Test.YtiepfeebmnfbdaaGreatMPO
namespace Go.Proofs.YtiepfeebmnfbdaaGreat
open Go.RowKit
theorem C7{f:FuncId}{F:U->Option V}(h:cg f F){us:U}(hF:F us=some (.bool true))(hd:us.all V.dat=true){vs:Array Value}{W:World}(hg:Glob W)(hr:RdL (fun _=>none) W vs.toList us):
 Calls Tryz.prog f vs W fun e W'=>e= .returned (.bool true)∧Below W.heap.size W W':=by
 refine(h.2 (fun _=>none) W vs us _ hF hd hr hg (fun _=> .undef _)).mono ?_;rintro e W' ⟨v,m',rfl,hv,hb,_⟩;rw[Rd.x_iff.1 hv];exact⟨rfl,hb⟩
