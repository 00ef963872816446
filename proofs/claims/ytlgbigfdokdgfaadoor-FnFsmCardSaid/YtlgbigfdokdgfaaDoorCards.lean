/-
  DERIVED. GIVEN WITH THE SEED: THE CARDS: each row of YtlgbigfdokdgfaaDoorRows.lean that lists a variable, with what it lists TIED to the program's text (the seventh form; the later family's looks); each row that meets fmt, with fmt's text TOLD by the authors' own Lean function (tested against real Go, not proved from fmt's source: count such statements apart). THE CARD IS WHAT COUNTS. Prove the row's statement (the work); the ties are given (YtlgbigfdokdgfaaDoorTie.lean); close each card by the builder's one call (the guide's Derived/Test/ToyasCard.lean, 'card_holds'). Laid BY PROGRAM, IN A SANDBOX (cutbox-door.mjs). By AI agents, Wed Nov 11 2026. No macro, syntax, notation, axiom, sorry.
-/
import Derived.Test.YtlgbigfdokdgfaaDoorRows
import GoSem.ClaimSeven
namespace Go.Proofs.YtlgbigfdokdgfaaDoor
namespace Rows

/-- THE TIED CARD OF 'laws.FnFsm'. -/
def fnFsmCard : Claim7 := { stood := { row := fnFsmRow, standIns := [], harness := (true, "2d001b87a322f46f83d7207b1811cfd8cd75a49e60b07cbd8eb3ab51e49404f6"), looks := false }, kinds := [], alts := [], laidByText := true, laidKinds := [.listed, .data, .data, .data], laidTests := true, laidLooks := .later }
def FnFsmCardSaid : Prop := Claim7.holds Tryd.pinned (.plain (OpenSpec.ofChange fnFsmSpec)) fnFsmCard

/-- THE TIED CARD OF 'laws.FnExactFsm'. -/
def fnExactFsmCard : Claim7 := { stood := { row := fnExactFsmRow, standIns := [], harness := (true, "2d001b87a322f46f83d7207b1811cfd8cd75a49e60b07cbd8eb3ab51e49404f6"), looks := false }, kinds := [], alts := [], laidByText := true, laidKinds := [.listed, .data, .data, .data], laidTests := true, laidLooks := .later }
def FnExactFsmCardSaid : Prop := Claim7.holds Tryd.pinned (.plain (OpenSpec.ofChange fnExactFsmSpec)) fnExactFsmCard

/-- THE TIED CARD OF 'laws.FnExactFsmEvents'. -/
def fnExactFsmEventsCard : Claim7 := { stood := { row := fnExactFsmEventsRow, standIns := [], harness := (true, "2d001b87a322f46f83d7207b1811cfd8cd75a49e60b07cbd8eb3ab51e49404f6"), looks := false }, kinds := [], alts := [], laidByText := true, laidKinds := [.data], laidTests := true, laidLooks := .later }
def FnExactFsmEventsCardSaid : Prop := Claim7.holds Tryd.pinned (.plain (OpenSpec.ofChange fnExactFsmEventsSpec)) fnExactFsmEventsCard

/-- THE SECOND FORM's CARD OF 'laws.FnFsm'. -/
def fnFsmUptoCard : Claim7 := { stood := { row := fnFsmUptoRow, standIns := [], harness := (true, "2d001b87a322f46f83d7207b1811cfd8cd75a49e60b07cbd8eb3ab51e49404f6"), looks := false }, kinds := [], alts := [], laidByText := true, laidKinds := [.listed, .data, .data, .data], laidTests := true, laidLooks := .later }
def FnFsmUptoCardSaid : Prop := Claim7.holds Tryd.pinned (.plain (OpenSpec.upto fnFsmSpec)) fnFsmUptoCard

/-- THE SECOND FORM's CARD OF 'laws.FnExactFsm'. -/
def fnExactFsmUptoCard : Claim7 := { stood := { row := fnExactFsmUptoRow, standIns := [], harness := (true, "2d001b87a322f46f83d7207b1811cfd8cd75a49e60b07cbd8eb3ab51e49404f6"), looks := false }, kinds := [], alts := [], laidByText := true, laidKinds := [.listed, .data, .data, .data], laidTests := true, laidLooks := .later }
def FnExactFsmUptoCardSaid : Prop := Claim7.holds Tryd.pinned (.plain (OpenSpec.upto fnExactFsmSpec)) fnExactFsmUptoCard

/-- THE SECOND FORM's CARD OF 'laws.FnExactFsmEvents'. -/
def fnExactFsmEventsUptoCard : Claim7 := { stood := { row := fnExactFsmEventsUptoRow, standIns := [], harness := (true, "2d001b87a322f46f83d7207b1811cfd8cd75a49e60b07cbd8eb3ab51e49404f6"), looks := false }, kinds := [], alts := [], laidByText := true, laidKinds := [.data], laidTests := true, laidLooks := .later }
def FnExactFsmEventsUptoCardSaid : Prop := Claim7.holds Tryd.pinned (.plain (OpenSpec.upto fnExactFsmEventsSpec)) fnExactFsmEventsUptoCard
end Rows
end Go.Proofs.YtlgbigfdokdgfaaDoor
