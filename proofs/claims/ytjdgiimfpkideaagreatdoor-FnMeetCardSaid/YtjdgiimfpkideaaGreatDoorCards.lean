/-
  DERIVED. GIVEN WITH THE SEED: THE CARDS: each row of YtjdgiimfpkideaaGreatDoorRows.lean that lists a variable, with what it lists TIED to the program's text (the seventh form; the later family's looks); each row that meets fmt, with fmt's text TOLD by the authors' own Lean function (tested against real Go, not proved from fmt's source: count such statements apart). THE CARD IS WHAT COUNTS. Prove the row's statement (the work); the ties are given (YtjdgiimfpkideaaGreatDoorTie.lean); close each card by the builder's one call (the guide's Derived/Test/ToyasCard.lean, 'card_holds'). Laid BY PROGRAM, IN A SANDBOX (cutbox-door.mjs). By AI agents, Wed Nov 11 2026. No macro, syntax, notation, axiom, sorry.
-/
import Derived.Test.YtjdgiimfpkideaaGreatDoorRows
import GoSem.ClaimSeven
namespace Go.Proofs.YtjdgiimfpkideaaGreatDoor
namespace Rows

/-- THE TIED CARD OF 'laws.FnMeet'. -/
def fnMeetCard : Claim7 := { stood := { row := fnMeetRow, standIns := [], harness := (true, "502542268587be14d357db4d553caf1393e2569a43c1f77b5f54da1c99c655b3"), looks := true }, kinds := [], alts := [], laidByText := true, laidKinds := [.handle, .listed, .data, .data, .data], laidTests := true, laidLooks := .later }
def FnMeetCardSaid : Prop := Claim7.holds Tryz.pinned (.plain (OpenSpec.ofChange fnMeetSpec)) fnMeetCard

/-- THE TIED CARD OF 'laws.FnExactMeetRun'. -/
def fnExactMeetRunCard : Claim7 := { stood := { row := fnExactMeetRunRow, standIns := [], harness := (true, "502542268587be14d357db4d553caf1393e2569a43c1f77b5f54da1c99c655b3"), looks := true }, kinds := [], alts := [], laidByText := true, laidKinds := [.handle, .listed, .data, .data, .data], laidTests := true, laidLooks := .later }
def FnExactMeetRunCardSaid : Prop := Claim7.holds Tryz.pinned (.plain (OpenSpec.ofChange fnExactMeetRunSpec)) fnExactMeetRunCard

/-- THE SECOND FORM's CARD OF 'laws.FnMeet'. -/
def fnMeetUptoCard : Claim7 := { stood := { row := fnMeetUptoRow, standIns := [], harness := (true, "502542268587be14d357db4d553caf1393e2569a43c1f77b5f54da1c99c655b3"), looks := true }, kinds := [], alts := [], laidByText := true, laidKinds := [.handle, .listed, .data, .data, .data], laidTests := true, laidLooks := .later }
def FnMeetUptoCardSaid : Prop := Claim7.holds Tryz.pinned (.plain (OpenSpec.upto fnMeetSpec)) fnMeetUptoCard

/-- THE SECOND FORM's CARD OF 'laws.FnExactMeetRun'. -/
def fnExactMeetRunUptoCard : Claim7 := { stood := { row := fnExactMeetRunUptoRow, standIns := [], harness := (true, "502542268587be14d357db4d553caf1393e2569a43c1f77b5f54da1c99c655b3"), looks := true }, kinds := [], alts := [], laidByText := true, laidKinds := [.handle, .listed, .data, .data, .data], laidTests := true, laidLooks := .later }
def FnExactMeetRunUptoCardSaid : Prop := Claim7.holds Tryz.pinned (.plain (OpenSpec.upto fnExactMeetRunSpec)) fnExactMeetRunUptoCard
end Rows
end Go.Proofs.YtjdgiimfpkideaaGreatDoor
