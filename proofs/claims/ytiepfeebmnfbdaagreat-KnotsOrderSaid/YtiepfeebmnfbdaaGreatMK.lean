/- MK -/
import Derived.Test.YtiepfeebmnfbdaaGreatMJ
import Derived.Test.YtiepfeebmnfbdaaGreatMQ
namespace Go.Proofs.YtiepfeebmnfbdaaGreat
set_option maxRecDepth 100000
open Go.RowKit Go.Sort
def rowS(S:List (List Int))(i:Int):List Int:=(S[i.toNat]?).getD []
inductive ReachI (S:List (List Int)) (i:Int):Int->Prop
 |one {r:Int} (h:r∈rowS S i):ReachI S i r
 |step {x r:Int} (h:ReachI S i x) (k:r∈rowS S x):ReachI S i r
theorem dA:∀{n:Nat} {l:List Int},l.Nodup->(∀x∈l,0<=x∧x.toNat<n)->l.length<=n:=by
 intro n l hn hl;have h1:(l.map Int.toNat).Nodup:=List.Pairwise.map _ (fun a b hab=>hab) ((List.pairwise_iff_forall_sublist.2 fun {a b} hs=>by have hp:=List.pairwise_iff_forall_sublist.1 hn hs;have ha:=hl a (hs.subset A0k);have hb:=hl b (hs.subset A0k);show a.toNat≠b.toNat;intro e;exact hp A0b):l.Pairwise fun a b=>a.toNat≠b.toNat)
 have h2:=eu h1 (l':=List.range n) (fun x hx=>by obtain⟨y,hy,rfl⟩:=ads.1 hx;exact adU.2 (hl y hy).2)
 simpa using h2
