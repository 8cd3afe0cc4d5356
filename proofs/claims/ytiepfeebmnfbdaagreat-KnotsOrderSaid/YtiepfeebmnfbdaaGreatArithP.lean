/- ArithP -/
import Derived.RowKit
import Derived.IntWalk
namespace Go.Proofs.YtiepfeebmnfbdaaGreat
open Go.RowKit
def inR(x:Int):Prop:= -9223372036854775808<=x∧x<=9223372036854775807
instance (x:Int):Decidable (inR x):=inferInstanceAs (Decidable (_∧_))
theorem Fm{x:Int}(h:inR x):wrap64 x=x:=by unfold wrap64;unfold inR at h;omega
