/- Plain laws of sums, differences, products and quotients of numbers of 64 bits with a sign. No program is named here. -/
import Derived.RowKit
import Derived.IntWalk
namespace Go.Proofs.Ytldnpcolhdnkdaa
set_option linter.unusedSimpArgs false
open Go.RowKit
def aS (x:Int):Prop:= -9223372036854775808<=x∧x<=9223372036854775807
instance (x:Int):Decidable (aS x):=inferInstanceAs (Decidable (_∧_))
theorem xh {x:Int} (h:aS x):wrap64 x=x:=by unfold wrap64;unfold aS at h;omega
end Go.Proofs.Ytldnpcolhdnkdaa
