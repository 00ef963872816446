/-
  DERIVED. GIVEN WITH THE SEED: THE CARDS: each row of YtidhlfkealjifaeDoorRows.lean that lists a variable, with what it lists TIED to the program's text (the seventh form; the later family's looks); each row that meets fmt, with fmt's text TOLD by the authors' own Lean function (tested against real Go, not proved from fmt's source: count such statements apart). THE CARD IS WHAT COUNTS. Prove the row's statement (the work); the ties are given (YtidhlfkealjifaeDoorTie.lean); close each card by the builder's one call (the guide's Derived/Test/ToyasCard.lean, 'card_holds'). Laid BY PROGRAM, IN A SANDBOX (cutbox-door.mjs). By AI agents, Wed Nov 11 2026. No macro, syntax, notation, axiom, sorry.
-/
import Derived.Test.YtidhlfkealjifaeDoorRows
import GoSem.ClaimSeven
namespace Go.Proofs.YtidhlfkealjifaeDoor
namespace Rows

/-- THE TIED CARD OF 'laws.FnExactOptionsRead'. -/
def fnExactOptionsReadCard : Claim7 := { stood := { row := fnExactOptionsReadRow, standIns := [], harness := (true, "6bb027676fefa500d996daa09d35f03bd603ce2b9b2e14364e64de42cd145521"), looks := true }, kinds := [], alts := [], laidByText := true, laidKinds := [.handle], laidTests := true, laidLooks := .later }
def FnExactOptionsReadCardSaid : Prop := Claim7.holds Tryd.pinned (.plain (OpenSpec.ofChange fnExactOptionsReadSpec)) fnExactOptionsReadCard

/-- THE TIED CARD OF 'laws.FnExactPacketRead'. -/
def fnExactPacketReadCard : Claim7 := { stood := { row := fnExactPacketReadRow, standIns := [], harness := (true, "6bb027676fefa500d996daa09d35f03bd603ce2b9b2e14364e64de42cd145521"), looks := true }, kinds := [], alts := [], laidByText := true, laidKinds := [.handle], laidTests := true, laidLooks := .later }
def FnExactPacketReadCardSaid : Prop := Claim7.holds Tryd.pinned (.plain (OpenSpec.ofChange fnExactPacketReadSpec)) fnExactPacketReadCard

/-- THE SECOND FORM's CARD OF 'laws.FnExactOptionsRead'. -/
def fnExactOptionsReadUptoCard : Claim7 := { stood := { row := fnExactOptionsReadUptoRow, standIns := [], harness := (true, "6bb027676fefa500d996daa09d35f03bd603ce2b9b2e14364e64de42cd145521"), looks := true }, kinds := [], alts := [], laidByText := true, laidKinds := [.handle], laidTests := true, laidLooks := .later }
def FnExactOptionsReadUptoCardSaid : Prop := Claim7.holds Tryd.pinned (.plain (OpenSpec.upto fnExactOptionsReadSpec)) fnExactOptionsReadUptoCard

/-- THE SECOND FORM's CARD OF 'laws.FnExactPacketRead'. -/
def fnExactPacketReadUptoCard : Claim7 := { stood := { row := fnExactPacketReadUptoRow, standIns := [], harness := (true, "6bb027676fefa500d996daa09d35f03bd603ce2b9b2e14364e64de42cd145521"), looks := true }, kinds := [], alts := [], laidByText := true, laidKinds := [.handle], laidTests := true, laidLooks := .later }
def FnExactPacketReadUptoCardSaid : Prop := Claim7.holds Tryd.pinned (.plain (OpenSpec.upto fnExactPacketReadSpec)) fnExactPacketReadUptoCard
end Rows
end Go.Proofs.YtidhlfkealjifaeDoor
