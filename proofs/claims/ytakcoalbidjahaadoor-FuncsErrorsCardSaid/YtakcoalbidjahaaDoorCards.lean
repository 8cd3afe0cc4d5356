/-
  DERIVED. GIVEN WITH THE SEED: THE CARDS: each row of YtakcoalbidjahaaDoorRows.lean that lists a variable, with what it lists TIED to the program's text (the seventh form; the later family's looks); each row that meets fmt, with fmt's text TOLD by the authors' own Lean function (tested against real Go, not proved from fmt's source: count such statements apart). THE CARD IS WHAT COUNTS. Prove the row's statement (the work); the ties are given (YtakcoalbidjahaaDoorTie.lean); close each card by the builder's one call (the guide's Derived/Test/ToyasCard.lean, 'card_holds'). Laid BY PROGRAM, IN A SANDBOX (cutbox-door.mjs). By AI agents, Wed Nov 11 2026. No macro, syntax, notation, axiom, sorry.
-/
import Derived.Test.YtakcoalbidjahaaDoorRows
import GoSem.ClaimSeven
namespace Go.Proofs.YtakcoalbidjahaaDoor
namespace Rows

/-- THE TIED CARD OF 'abacistlaw10.FuncsShare'. -/
def funcsShareCard : Claim7 := { stood := { row := funcsShareRow, standIns := [], harness := (true, "214e9891c6770dc59b61017314e314dbf9cb17f5a432f5273ad73404f8f89cc6"), looks := false }, kinds := [], alts := [], laidByText := true, laidKinds := [.data, .data, .data, .data], laidTests := true, laidLooks := .later }
def FuncsShareCardSaid : Prop := Claim7.holds Tryd.pinned (.plain (OpenSpec.ofChange funcsShareSpec)) funcsShareCard

/-- THE TIED CARD OF 'abacistlaw10.FuncsTexts'. -/
def funcsTextsCard : Claim7 := { stood := { row := funcsTextsRow, standIns := [], harness := (true, "214e9891c6770dc59b61017314e314dbf9cb17f5a432f5273ad73404f8f89cc6"), looks := false }, kinds := [], alts := [], laidByText := true, laidKinds := [.data, .data, .data, .data], laidTests := true, laidLooks := .later }
def FuncsTextsCardSaid : Prop := Claim7.holds Tryd.pinned (.plain (OpenSpec.ofChange funcsTextsSpec)) funcsTextsCard

/-- THE TIED CARD OF 'abacistlaw10.FuncsArgs'. -/
def funcsArgsCard : Claim7 := { stood := { row := funcsArgsRow, standIns := [], harness := (true, "214e9891c6770dc59b61017314e314dbf9cb17f5a432f5273ad73404f8f89cc6"), looks := false }, kinds := [], alts := [], laidByText := true, laidKinds := [.data, .data, .data, .data], laidTests := true, laidLooks := .later }
def FuncsArgsCardSaid : Prop := Claim7.holds Tryd.pinned (.plain (OpenSpec.ofChange funcsArgsSpec)) funcsArgsCard

/-- THE TIED CARD OF 'abacistlaw10.FuncsErrors'. -/
def funcsErrorsCard : Claim7 := { stood := { row := funcsErrorsRow, standIns := [], harness := (true, "214e9891c6770dc59b61017314e314dbf9cb17f5a432f5273ad73404f8f89cc6"), looks := false }, kinds := [], alts := [], laidByText := true, laidKinds := [.data, .data, .data, .data], laidTests := true, laidLooks := .later }
def FuncsErrorsCardSaid : Prop := Claim7.holds Tryd.pinned (.plain (OpenSpec.ofChange funcsErrorsSpec)) funcsErrorsCard

/-- THE TIED CARD OF 'abacistlaw10.FuncsNumbers'. -/
def funcsNumbersCard : Claim7 := { stood := { row := funcsNumbersRow, standIns := [], harness := (true, "214e9891c6770dc59b61017314e314dbf9cb17f5a432f5273ad73404f8f89cc6"), looks := false }, kinds := [], alts := [], laidByText := true, laidKinds := [.data, .data, .data, .data], laidTests := true, laidLooks := .later }
def FuncsNumbersCardSaid : Prop := Claim7.holds Tryd.pinned (.plain (OpenSpec.ofChange funcsNumbersSpec)) funcsNumbersCard

/-- THE TIED CARD OF 'abacistlaw10.FuncsChoose'. -/
def funcsChooseCard : Claim7 := { stood := { row := funcsChooseRow, standIns := [], harness := (true, "214e9891c6770dc59b61017314e314dbf9cb17f5a432f5273ad73404f8f89cc6"), looks := false }, kinds := [], alts := [], laidByText := true, laidKinds := [.data, .data, .data, .data], laidTests := true, laidLooks := .later }
def FuncsChooseCardSaid : Prop := Claim7.holds Tryd.pinned (.plain (OpenSpec.ofChange funcsChooseSpec)) funcsChooseCard

/-- THE SECOND FORM's CARD OF 'abacistlaw10.FuncsShare'. -/
def funcsShareUptoCard : Claim7 := { stood := { row := funcsShareUptoRow, standIns := [], harness := (true, "214e9891c6770dc59b61017314e314dbf9cb17f5a432f5273ad73404f8f89cc6"), looks := false }, kinds := [], alts := [], laidByText := true, laidKinds := [.data, .data, .data, .data], laidTests := true, laidLooks := .later }
def FuncsShareUptoCardSaid : Prop := Claim7.holds Tryd.pinned (.plain (OpenSpec.upto funcsShareSpec)) funcsShareUptoCard

/-- THE SECOND FORM's CARD OF 'abacistlaw10.FuncsTexts'. -/
def funcsTextsUptoCard : Claim7 := { stood := { row := funcsTextsUptoRow, standIns := [], harness := (true, "214e9891c6770dc59b61017314e314dbf9cb17f5a432f5273ad73404f8f89cc6"), looks := false }, kinds := [], alts := [], laidByText := true, laidKinds := [.data, .data, .data, .data], laidTests := true, laidLooks := .later }
def FuncsTextsUptoCardSaid : Prop := Claim7.holds Tryd.pinned (.plain (OpenSpec.upto funcsTextsSpec)) funcsTextsUptoCard

/-- THE SECOND FORM's CARD OF 'abacistlaw10.FuncsArgs'. -/
def funcsArgsUptoCard : Claim7 := { stood := { row := funcsArgsUptoRow, standIns := [], harness := (true, "214e9891c6770dc59b61017314e314dbf9cb17f5a432f5273ad73404f8f89cc6"), looks := false }, kinds := [], alts := [], laidByText := true, laidKinds := [.data, .data, .data, .data], laidTests := true, laidLooks := .later }
def FuncsArgsUptoCardSaid : Prop := Claim7.holds Tryd.pinned (.plain (OpenSpec.upto funcsArgsSpec)) funcsArgsUptoCard

/-- THE SECOND FORM's CARD OF 'abacistlaw10.FuncsErrors'. -/
def funcsErrorsUptoCard : Claim7 := { stood := { row := funcsErrorsUptoRow, standIns := [], harness := (true, "214e9891c6770dc59b61017314e314dbf9cb17f5a432f5273ad73404f8f89cc6"), looks := false }, kinds := [], alts := [], laidByText := true, laidKinds := [.data, .data, .data, .data], laidTests := true, laidLooks := .later }
def FuncsErrorsUptoCardSaid : Prop := Claim7.holds Tryd.pinned (.plain (OpenSpec.upto funcsErrorsSpec)) funcsErrorsUptoCard

/-- THE SECOND FORM's CARD OF 'abacistlaw10.FuncsNumbers'. -/
def funcsNumbersUptoCard : Claim7 := { stood := { row := funcsNumbersUptoRow, standIns := [], harness := (true, "214e9891c6770dc59b61017314e314dbf9cb17f5a432f5273ad73404f8f89cc6"), looks := false }, kinds := [], alts := [], laidByText := true, laidKinds := [.data, .data, .data, .data], laidTests := true, laidLooks := .later }
def FuncsNumbersUptoCardSaid : Prop := Claim7.holds Tryd.pinned (.plain (OpenSpec.upto funcsNumbersSpec)) funcsNumbersUptoCard

/-- THE SECOND FORM's CARD OF 'abacistlaw10.FuncsChoose'. -/
def funcsChooseUptoCard : Claim7 := { stood := { row := funcsChooseUptoRow, standIns := [], harness := (true, "214e9891c6770dc59b61017314e314dbf9cb17f5a432f5273ad73404f8f89cc6"), looks := false }, kinds := [], alts := [], laidByText := true, laidKinds := [.data, .data, .data, .data], laidTests := true, laidLooks := .later }
def FuncsChooseUptoCardSaid : Prop := Claim7.holds Tryd.pinned (.plain (OpenSpec.upto funcsChooseSpec)) funcsChooseUptoCard
end Rows
end Go.Proofs.YtakcoalbidjahaaDoor
