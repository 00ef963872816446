/-
  DERIVED. GIVEN WITH THE SEED: THE CARDS: each row of YteffbodinbmliadDoorRows.lean that lists a variable, with what it lists TIED to the program's text (the seventh form; the later family's looks); each row that meets fmt, with fmt's text TOLD by the authors' own Lean function (tested against real Go, not proved from fmt's source: count such statements apart). THE CARD IS WHAT COUNTS. Prove the row's statement (the work); the ties are given (YteffbodinbmliadDoorTie.lean); close each card by the builder's one call (the guide's Derived/Test/ToyasCard.lean, 'card_holds'). Laid BY PROGRAM, IN A SANDBOX (cutbox-door.mjs). By AI agents, Wed Nov 11 2026. No macro, syntax, notation, axiom, sorry.
-/
import Derived.Test.YteffbodinbmliadDoorRows
import GoSem.ClaimSeven
namespace Go.Proofs.YteffbodinbmliadDoor
namespace Rows

/-- THE TIED CARD OF 'laws.FnExactFrame'. -/
def fnExactFrameCard : Claim7 := { stood := { row := fnExactFrameRow, standIns := [], harness := (true, "b5f89fbfb25a77d44d5f33399796fb93ec333e1ae115d522ceda744c4f61ffe6"), looks := false }, kinds := [], alts := [], laidByText := true, laidKinds := [.data, .pinned], laidTests := true, laidLooks := .later }
def FnExactFrameCardSaid : Prop := Claim7.holds Tryd.pinned (.plain (OpenSpec.ofChange fnExactFrameSpec)) fnExactFrameCard

/-- THE TIED CARD OF 'laws.FnExactDeframe'. -/
def fnExactDeframeCard : Claim7 := { stood := { row := fnExactDeframeRow, standIns := [], harness := (true, "b5f89fbfb25a77d44d5f33399796fb93ec333e1ae115d522ceda744c4f61ffe6"), looks := false }, kinds := [], alts := [], laidByText := true, laidKinds := [.data, .pinned], laidTests := true, laidLooks := .later }
def FnExactDeframeCardSaid : Prop := Claim7.holds Tryd.pinned (.plain (OpenSpec.ofChange fnExactDeframeSpec)) fnExactDeframeCard

/-- THE SECOND FORM's CARD OF 'laws.FnExactFrame'. -/
def fnExactFrameUptoCard : Claim7 := { stood := { row := fnExactFrameUptoRow, standIns := [], harness := (true, "b5f89fbfb25a77d44d5f33399796fb93ec333e1ae115d522ceda744c4f61ffe6"), looks := false }, kinds := [], alts := [], laidByText := true, laidKinds := [.data, .pinned], laidTests := true, laidLooks := .later }
def FnExactFrameUptoCardSaid : Prop := Claim7.holds Tryd.pinned (.plain (OpenSpec.upto fnExactFrameSpec)) fnExactFrameUptoCard

/-- THE SECOND FORM's CARD OF 'laws.FnExactDeframe'. -/
def fnExactDeframeUptoCard : Claim7 := { stood := { row := fnExactDeframeUptoRow, standIns := [], harness := (true, "b5f89fbfb25a77d44d5f33399796fb93ec333e1ae115d522ceda744c4f61ffe6"), looks := false }, kinds := [], alts := [], laidByText := true, laidKinds := [.data, .pinned], laidTests := true, laidLooks := .later }
def FnExactDeframeUptoCardSaid : Prop := Claim7.holds Tryd.pinned (.plain (OpenSpec.upto fnExactDeframeSpec)) fnExactDeframeUptoCard
end Rows
end Go.Proofs.YteffbodinbmliadDoor
