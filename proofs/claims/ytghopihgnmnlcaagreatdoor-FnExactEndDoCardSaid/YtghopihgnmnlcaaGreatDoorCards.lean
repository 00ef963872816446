/-
  DERIVED. GIVEN WITH THE SEED: THE CARDS: each row of YtghopihgnmnlcaaGreatDoorRows.lean that lists a variable, with what it lists TIED to the program's text (the seventh form; the later family's looks); each row that meets fmt, with fmt's text TOLD by the authors' own Lean function (tested against real Go, not proved from fmt's source: count such statements apart). THE CARD IS WHAT COUNTS. Prove the row's statement (the work); the ties are given (YtghopihgnmnlcaaGreatDoorTie.lean); close each card by the builder's one call (the guide's Derived/Test/ToyasCard.lean, 'card_holds'). Laid BY PROGRAM, IN A SANDBOX (cutbox-door.mjs). By AI agents, Wed Nov 11 2026. No macro, syntax, notation, axiom, sorry.
-/
import Derived.Test.YtghopihgnmnlcaaGreatDoorRows
import GoSem.ClaimSeven
namespace Go.Proofs.YtghopihgnmnlcaaGreatDoor
namespace Rows

/-- THE TIED CARD OF 'laws.FnEnd'. -/
def fnEndCard : Claim7 := { stood := { row := fnEndRow, standIns := [], harness := (true, "ae0cac789b94bcd6e364d8e557f28f3080d612cea03a6659c67d3e8311ce7124"), looks := true }, kinds := [], alts := [], laidByText := true, laidKinds := [.handle, .listed, .data, .data, .data], laidTests := true, laidLooks := .later }
def FnEndCardSaid : Prop := Claim7.holds Tryz.pinned (.plain (OpenSpec.ofChange fnEndSpec)) fnEndCard

/-- THE TIED CARD OF 'laws.FnExactEndDo'. -/
def fnExactEndDoCard : Claim7 := { stood := { row := fnExactEndDoRow, standIns := [], harness := (true, "ae0cac789b94bcd6e364d8e557f28f3080d612cea03a6659c67d3e8311ce7124"), looks := true }, kinds := [], alts := [], laidByText := true, laidKinds := [.listed, .data, .data, .data], laidTests := true, laidLooks := .later }
def FnExactEndDoCardSaid : Prop := Claim7.holds Tryz.pinned (.plain (OpenSpec.ofChange fnExactEndDoSpec)) fnExactEndDoCard

/-- THE TIED CARD OF 'laws.FnExactEndTick'. -/
def fnExactEndTickCard : Claim7 := { stood := { row := fnExactEndTickRow, standIns := [], harness := (true, "ae0cac789b94bcd6e364d8e557f28f3080d612cea03a6659c67d3e8311ce7124"), looks := true }, kinds := [], alts := [], laidByText := true, laidKinds := [.listed, .data, .data, .data], laidTests := true, laidLooks := .later }
def FnExactEndTickCardSaid : Prop := Claim7.holds Tryz.pinned (.plain (OpenSpec.ofChange fnExactEndTickSpec)) fnExactEndTickCard

/-- THE TIED CARD OF 'laws.FnExactEndHear'. -/
def fnExactEndHearCard : Claim7 := { stood := { row := fnExactEndHearRow, standIns := [], harness := (true, "ae0cac789b94bcd6e364d8e557f28f3080d612cea03a6659c67d3e8311ce7124"), looks := true }, kinds := [], alts := [], laidByText := true, laidKinds := [.handle, .listed, .data, .data, .data], laidTests := true, laidLooks := .later }
def FnExactEndHearCardSaid : Prop := Claim7.holds Tryz.pinned (.plain (OpenSpec.ofChange fnExactEndHearSpec)) fnExactEndHearCard

/-- THE SECOND FORM's CARD OF 'laws.FnEnd'. -/
def fnEndUptoCard : Claim7 := { stood := { row := fnEndUptoRow, standIns := [], harness := (true, "ae0cac789b94bcd6e364d8e557f28f3080d612cea03a6659c67d3e8311ce7124"), looks := true }, kinds := [], alts := [], laidByText := true, laidKinds := [.handle, .listed, .data, .data, .data], laidTests := true, laidLooks := .later }
def FnEndUptoCardSaid : Prop := Claim7.holds Tryz.pinned (.plain (OpenSpec.upto fnEndSpec)) fnEndUptoCard

/-- THE SECOND FORM's CARD OF 'laws.FnExactEndDo'. -/
def fnExactEndDoUptoCard : Claim7 := { stood := { row := fnExactEndDoUptoRow, standIns := [], harness := (true, "ae0cac789b94bcd6e364d8e557f28f3080d612cea03a6659c67d3e8311ce7124"), looks := true }, kinds := [], alts := [], laidByText := true, laidKinds := [.listed, .data, .data, .data], laidTests := true, laidLooks := .later }
def FnExactEndDoUptoCardSaid : Prop := Claim7.holds Tryz.pinned (.plain (OpenSpec.upto fnExactEndDoSpec)) fnExactEndDoUptoCard

/-- THE SECOND FORM's CARD OF 'laws.FnExactEndTick'. -/
def fnExactEndTickUptoCard : Claim7 := { stood := { row := fnExactEndTickUptoRow, standIns := [], harness := (true, "ae0cac789b94bcd6e364d8e557f28f3080d612cea03a6659c67d3e8311ce7124"), looks := true }, kinds := [], alts := [], laidByText := true, laidKinds := [.listed, .data, .data, .data], laidTests := true, laidLooks := .later }
def FnExactEndTickUptoCardSaid : Prop := Claim7.holds Tryz.pinned (.plain (OpenSpec.upto fnExactEndTickSpec)) fnExactEndTickUptoCard

/-- THE SECOND FORM's CARD OF 'laws.FnExactEndHear'. -/
def fnExactEndHearUptoCard : Claim7 := { stood := { row := fnExactEndHearUptoRow, standIns := [], harness := (true, "ae0cac789b94bcd6e364d8e557f28f3080d612cea03a6659c67d3e8311ce7124"), looks := true }, kinds := [], alts := [], laidByText := true, laidKinds := [.handle, .listed, .data, .data, .data], laidTests := true, laidLooks := .later }
def FnExactEndHearUptoCardSaid : Prop := Claim7.holds Tryz.pinned (.plain (OpenSpec.upto fnExactEndHearSpec)) fnExactEndHearUptoCard
end Rows
end Go.Proofs.YtghopihgnmnlcaaGreatDoor
