/- A region that draws its order, walked with a condition that grows from world to world: 'what lay there lies there yet'. No program is named here. -/
import Derived.Test.YtaojlcgcghdlmaaDoorLawA
namespace Go.Proofs.YtaojlcgcghdlmaaDoor
open Go.RowKit
section
variable {P : Program} {ops : Array Oper} {Q : Exit → Act → World → Prop}
theorem held_weaken {md : Region.Mode} {S S' : World → Prop} (hSS : ∀ w, S' w → S w) : ∀ (fuel : Nat) (listed : Array Bool) (a : Act) (w : World), wpAnyH P md ops Q S' fuel listed a w → wpAnyH P md ops Q S fuel listed a w
  | 0, _, _, _, h => h
  | fuel + 1, _, _, _, h => ⟨h.1, fun i hi => wpOp_mono (fun a' w' h' => ⟨hSS _ h'.1, held_weaken hSS fuel _ a' w' h'.2⟩) (h.2 i hi)⟩

/-- The beginning. -/
theorem held_begin {id : Nat} {a : Act} {w : World} (hm : P.follows .mixedOrders = true)
    (h : wpAnyH P .any ops Q (Below w.drew.heap.size w.drew) ops.size (Array.replicate ops.size false) a w.drew) : (Code.region id ops true).wp P Q a w :=
  wp_region_held_drew hm (Below.refl _ _) (fun _ => h)

/-- Behind a call: the condition begins anew at the world that it left. -/
theorem held_on {md : Region.Mode} {w w' : World} {K : Act → World → Prop} {fuel : Nat} {listed : Array Bool} {a : Act}
    (hK : Shut (∀ a x, Below w.heap.size w x → (Below w.heap.size w x → wpAnyH P md ops Q (Below w.heap.size w) fuel listed a x) → K a x))
    (hb : Below w.heap.size w w') (h : wpAnyH P md ops Q (Below w'.heap.size w') fuel listed a w') : K a w' :=
  hK.out a w' hb (fun _ => held_weaken (fun _ h => hb.trans (h.mono hb.size)) _ _ _ _ h)
end
end Go.Proofs.YtaojlcgcghdlmaaDoor
