/-
  DERIVED. GIVEN WITH THE SEED: THE CARDS: each row of YtkkcjhbkdlenpaaDoorRows.lean that lists a variable, with what it lists TIED to the program's text (the seventh form; the later family's looks); each row that meets fmt, with fmt's text TOLD by the authors' own Lean function (tested against real Go, not proved from fmt's source: count such statements apart). THE CARD IS WHAT COUNTS. Prove the row's statement (the work); the ties are given (YtkkcjhbkdlenpaaDoorTie.lean); close each card by the builder's one call (the guide's Derived/Test/ToyasCard.lean, 'card_holds'). Laid BY PROGRAM, IN A SANDBOX (cutbox-door.mjs). By AI agents, Wed Nov 11 2026. No macro, syntax, notation, axiom, sorry.
-/
import Derived.Test.YtkkcjhbkdlenpaaDoorRows
import GoSem.ClaimSeven
namespace Go.Proofs.YtkkcjhbkdlenpaaDoor
namespace Rows

/-- THE TIED CARD OF 'abacistlaw2.ArithTells'. -/
def arithTellsCard : Claim7 := { stood := { row := arithTellsRow, standIns := [], harness := (true, "b33101026d3cc2d967e01e60cbe963f11143608c55df9b82239d84609cf4eda5"), looks := false }, kinds := [], alts := [], laidByText := true, laidKinds := [.data, .data, .data, .data], laidTests := true, laidLooks := .later }
def ArithTellsCardSaid : Prop := Claim7.holds Tryd.pinned (.plain (OpenSpec.ofChange arithTellsSpec)) arithTellsCard

/-- THE TIED CARD OF 'abacistlaw2.ArithOver'. -/
def arithOverCard : Claim7 := { stood := { row := arithOverRow, standIns := [], harness := (true, "b33101026d3cc2d967e01e60cbe963f11143608c55df9b82239d84609cf4eda5"), looks := false }, kinds := [], alts := [], laidByText := true, laidKinds := [.data, .data, .data, .data], laidTests := true, laidLooks := .later }
def ArithOverCardSaid : Prop := Claim7.holds Tryd.pinned (.plain (OpenSpec.ofChange arithOverSpec)) arithOverCard

/-- THE TIED CARD OF 'abacistlaw2.ArithDivides'. -/
def arithDividesCard : Claim7 := { stood := { row := arithDividesRow, standIns := [], harness := (true, "b33101026d3cc2d967e01e60cbe963f11143608c55df9b82239d84609cf4eda5"), looks := false }, kinds := [], alts := [], laidByText := true, laidKinds := [.data, .data, .data, .data], laidTests := true, laidLooks := .later }
def ArithDividesCardSaid : Prop := Claim7.holds Tryd.pinned (.plain (OpenSpec.ofChange arithDividesSpec)) arithDividesCard

/-- THE TIED CARD OF 'abacistlaw2.ArithCompares'. -/
def arithComparesCard : Claim7 := { stood := { row := arithComparesRow, standIns := [], harness := (true, "b33101026d3cc2d967e01e60cbe963f11143608c55df9b82239d84609cf4eda5"), looks := false }, kinds := [], alts := [], laidByText := true, laidKinds := [.data, .data, .data, .data], laidTests := true, laidLooks := .later }
def ArithComparesCardSaid : Prop := Claim7.holds Tryd.pinned (.plain (OpenSpec.ofChange arithComparesSpec)) arithComparesCard

/-- THE SECOND FORM's CARD OF 'abacistlaw2.ArithTells'. -/
def arithTellsUptoCard : Claim7 := { stood := { row := arithTellsUptoRow, standIns := [], harness := (true, "b33101026d3cc2d967e01e60cbe963f11143608c55df9b82239d84609cf4eda5"), looks := false }, kinds := [], alts := [], laidByText := true, laidKinds := [.data, .data, .data, .data], laidTests := true, laidLooks := .later }
def ArithTellsUptoCardSaid : Prop := Claim7.holds Tryd.pinned (.plain (OpenSpec.upto arithTellsSpec)) arithTellsUptoCard

/-- THE SECOND FORM's CARD OF 'abacistlaw2.ArithOver'. -/
def arithOverUptoCard : Claim7 := { stood := { row := arithOverUptoRow, standIns := [], harness := (true, "b33101026d3cc2d967e01e60cbe963f11143608c55df9b82239d84609cf4eda5"), looks := false }, kinds := [], alts := [], laidByText := true, laidKinds := [.data, .data, .data, .data], laidTests := true, laidLooks := .later }
def ArithOverUptoCardSaid : Prop := Claim7.holds Tryd.pinned (.plain (OpenSpec.upto arithOverSpec)) arithOverUptoCard

/-- THE SECOND FORM's CARD OF 'abacistlaw2.ArithDivides'. -/
def arithDividesUptoCard : Claim7 := { stood := { row := arithDividesUptoRow, standIns := [], harness := (true, "b33101026d3cc2d967e01e60cbe963f11143608c55df9b82239d84609cf4eda5"), looks := false }, kinds := [], alts := [], laidByText := true, laidKinds := [.data, .data, .data, .data], laidTests := true, laidLooks := .later }
def ArithDividesUptoCardSaid : Prop := Claim7.holds Tryd.pinned (.plain (OpenSpec.upto arithDividesSpec)) arithDividesUptoCard

/-- THE SECOND FORM's CARD OF 'abacistlaw2.ArithCompares'. -/
def arithComparesUptoCard : Claim7 := { stood := { row := arithComparesUptoRow, standIns := [], harness := (true, "b33101026d3cc2d967e01e60cbe963f11143608c55df9b82239d84609cf4eda5"), looks := false }, kinds := [], alts := [], laidByText := true, laidKinds := [.data, .data, .data, .data], laidTests := true, laidLooks := .later }
def ArithComparesUptoCardSaid : Prop := Claim7.holds Tryd.pinned (.plain (OpenSpec.upto arithComparesSpec)) arithComparesUptoCard
end Rows
end Go.Proofs.YtkkcjhbkdlenpaaDoor
