/- Plain laws of sums, differences, products and quotients of numbers of 64 bits with a sign. No program is named here. -/
import Derived.RowKit
import Derived.IntWalk
namespace Go.Proofs.YtmfojhkjbkombaaGreat
set_option linter.unusedSimpArgs false
open Go.RowKit
def inR (x:Int):Prop:= -9223372036854775808<=x∧x<=9223372036854775807
instance (x:Int):Decidable (inR x):=inferInstanceAs (Decidable (_∧_))
theorem BL {x:Int} (h:inR x):wrap64 x=x:=by unfold wrap64;unfold inR at h;omega
end Go.Proofs.YtmfojhkjbkombaaGreat
