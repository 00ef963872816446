/-
  DERIVED. GIVEN WITH THE SEED: THE CARDS: each row of YtahpjlbaagkdoaaGreatDoorRows.lean that lists a variable, with what it lists TIED to the program's text (the seventh form; the later family's looks); each row that meets fmt, with fmt's text TOLD by the authors' own Lean function (tested against real Go, not proved from fmt's source: count such statements apart). THE CARD IS WHAT COUNTS. Prove the row's statement (the work); the ties are given (YtahpjlbaagkdoaaGreatDoorTie.lean); close each card by the builder's one call (the guide's Derived/Test/ToyasCard.lean, 'card_holds'). Laid BY PROGRAM, IN A SANDBOX (cutbox-door.mjs). By AI agents, Wed Nov 11 2026. No macro, syntax, notation, axiom, sorry.
-/
import Derived.Test.YtahpjlbaagkdoaaGreatDoorRows
import GoSem.ClaimSeven
namespace Go.Proofs.YtahpjlbaagkdoaaGreatDoor
namespace Rows

/-- THE TIED CARD OF 'laws.FnEnd'. -/
def fnEndCard : Claim7 := { stood := { row := fnEndRow, standIns := [], harness := (true, "d5e27be08ed7941ed4e4abba541a2ccf85d4f4cefd0a6b7815376fa244cc5319"), looks := true }, kinds := [], alts := [], laidByText := true, laidKinds := [.handle, .listed, .data, .data, .data], laidTests := true, laidLooks := .later }
def FnEndCardSaid : Prop := Claim7.holds Tryz.pinned (.plain (OpenSpec.ofChange fnEndSpec)) fnEndCard

/-- THE TIED CARD OF 'laws.FnExactEndHear'. -/
def fnExactEndHearCard : Claim7 := { stood := { row := fnExactEndHearRow, standIns := [], harness := (true, "d5e27be08ed7941ed4e4abba541a2ccf85d4f4cefd0a6b7815376fa244cc5319"), looks := true }, kinds := [], alts := [], laidByText := true, laidKinds := [.handle, .listed, .data, .data, .data], laidTests := true, laidLooks := .later }
def FnExactEndHearCardSaid : Prop := Claim7.holds Tryz.pinned (.plain (OpenSpec.ofChange fnExactEndHearSpec)) fnExactEndHearCard

/-- THE SECOND FORM's CARD OF 'laws.FnEnd'. -/
def fnEndUptoCard : Claim7 := { stood := { row := fnEndUptoRow, standIns := [], harness := (true, "d5e27be08ed7941ed4e4abba541a2ccf85d4f4cefd0a6b7815376fa244cc5319"), looks := true }, kinds := [], alts := [], laidByText := true, laidKinds := [.handle, .listed, .data, .data, .data], laidTests := true, laidLooks := .later }
def FnEndUptoCardSaid : Prop := Claim7.holds Tryz.pinned (.plain (OpenSpec.upto fnEndSpec)) fnEndUptoCard

/-- THE SECOND FORM's CARD OF 'laws.FnExactEndHear'. -/
def fnExactEndHearUptoCard : Claim7 := { stood := { row := fnExactEndHearUptoRow, standIns := [], harness := (true, "d5e27be08ed7941ed4e4abba541a2ccf85d4f4cefd0a6b7815376fa244cc5319"), looks := true }, kinds := [], alts := [], laidByText := true, laidKinds := [.handle, .listed, .data, .data, .data], laidTests := true, laidLooks := .later }
def FnExactEndHearUptoCardSaid : Prop := Claim7.holds Tryz.pinned (.plain (OpenSpec.upto fnExactEndHearSpec)) fnExactEndHearUptoCard
end Rows
end Go.Proofs.YtahpjlbaagkdoaaGreatDoor
