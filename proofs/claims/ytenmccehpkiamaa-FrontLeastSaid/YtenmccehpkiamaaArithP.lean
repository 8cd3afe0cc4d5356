/- Plain laws of sums, differences, products and quotients of numbers of 64 bits with a sign. No program is named here. -/
import Derived.RowKit
import Derived.IntWalk
namespace Go.Proofs.Ytenmccehpkiamaa
set_option linter.unusedSimpArgs false
open Go.RowKit
def bS (x:Int):Prop:= -9223372036854775808<=x∧x<=9223372036854775807
instance (x:Int):Decidable (bS x):=inferInstanceAs (Decidable (_∧_))
theorem ul {x:Int} (h:bS x):wrap64 x=x:=by unfold wrap64;unfold bS at h;omega
end Go.Proofs.Ytenmccehpkiamaa
