/-
  DERIVED. GIVEN WITH THE SEED: THE CARDS: each row of YtakcoalbidjahaaGreatDoorRows.lean that lists a variable, with what it lists TIED to the program's text (the seventh form; the later family's looks); each row that meets fmt, with fmt's text TOLD by the authors' own Lean function (tested against real Go, not proved from fmt's source: count such statements apart). THE CARD IS WHAT COUNTS. Prove the row's statement (the work); the ties are given (YtakcoalbidjahaaGreatDoorTie.lean); close each card by the builder's one call (the guide's Derived/Test/ToyasCard.lean, 'card_holds'). Laid BY PROGRAM, IN A SANDBOX (cutbox-door.mjs). By AI agents, Wed Nov 11 2026. No macro, syntax, notation, axiom, sorry.
-/
import Derived.Test.YtakcoalbidjahaaGreatDoorRows
import GoSem.ClaimSeven
namespace Go.Proofs.YtakcoalbidjahaaGreatDoor
namespace Rows

/-- THE TIED CARD OF 'abacistlaw10.FuncsTell'. -/
def funcsTellCard : Claim7 := { stood := { row := funcsTellRow, standIns := [], harness := (true, "7fb71322786ac84142b13ad47f9e94778943e2ada39e98f75daf656ee06e5c13"), looks := false }, kinds := [], alts := [], laidByText := true, laidKinds := [.data, .data, .data, .data], laidTests := true, laidLooks := .later }
def FuncsTellCardSaid : Prop := Claim7.holds Tryz.pinned (.plain (OpenSpec.ofChange funcsTellSpec)) funcsTellCard

/-- THE SECOND FORM's CARD OF 'abacistlaw10.FuncsTell'. -/
def funcsTellUptoCard : Claim7 := { stood := { row := funcsTellUptoRow, standIns := [], harness := (true, "7fb71322786ac84142b13ad47f9e94778943e2ada39e98f75daf656ee06e5c13"), looks := false }, kinds := [], alts := [], laidByText := true, laidKinds := [.data, .data, .data, .data], laidTests := true, laidLooks := .later }
def FuncsTellUptoCardSaid : Prop := Claim7.holds Tryz.pinned (.plain (OpenSpec.upto funcsTellSpec)) funcsTellUptoCard
end Rows
end Go.Proofs.YtakcoalbidjahaaGreatDoor
