/-
  DERIVED. GIVEN WITH THE SEED: THE CARDS: each row of YtkcghhkkepndnaaGreatDoorRows.lean that lists a variable, with what it lists TIED to the program's text (the seventh form; the later family's looks); each row that meets fmt, with fmt's text TOLD by the authors' own Lean function (tested against real Go, not proved from fmt's source: count such statements apart). THE CARD IS WHAT COUNTS. Prove the row's statement (the work); the ties are given (YtkcghhkkepndnaaGreatDoorTie.lean); close each card by the builder's one call (the guide's Derived/Test/ToyasCard.lean, 'card_holds'). Laid BY PROGRAM, IN A SANDBOX (cutbox-door.mjs). By AI agents, Wed Nov 11 2026. No macro, syntax, notation, axiom, sorry.
-/
import Derived.Test.YtkcghhkkepndnaaGreatDoorRows
import GoSem.ClaimSeven
namespace Go.Proofs.YtkcghhkkepndnaaGreatDoor
namespace Rows

/-- THE TIED CARD OF 'laws.FnLine'. -/
def fnLineCard : Claim7 := { stood := { row := fnLineRow, standIns := [], harness := (true, "3ed9698b719269c357f7389c387aae72ea31fa6de625969d243afeddb2052c00"), looks := false }, kinds := [], alts := [], laidByText := true, laidKinds := [.data, .pinned], laidTests := true, laidLooks := .later }
def FnLineCardSaid : Prop := Claim7.holds Tryz.pinned (.plain (OpenSpec.ofChange fnLineSpec)) fnLineCard

/-- THE TIED CARD OF 'laws.FnExactLineRun'. -/
def fnExactLineRunCard : Claim7 := { stood := { row := fnExactLineRunRow, standIns := [], harness := (true, "3ed9698b719269c357f7389c387aae72ea31fa6de625969d243afeddb2052c00"), looks := false }, kinds := [], alts := [], laidByText := true, laidKinds := [.data, .pinned], laidTests := true, laidLooks := .later }
def FnExactLineRunCardSaid : Prop := Claim7.holds Tryz.pinned (.plain (OpenSpec.ofChange fnExactLineRunSpec)) fnExactLineRunCard

/-- THE SECOND FORM's CARD OF 'laws.FnLine'. -/
def fnLineUptoCard : Claim7 := { stood := { row := fnLineUptoRow, standIns := [], harness := (true, "3ed9698b719269c357f7389c387aae72ea31fa6de625969d243afeddb2052c00"), looks := false }, kinds := [], alts := [], laidByText := true, laidKinds := [.data, .pinned], laidTests := true, laidLooks := .later }
def FnLineUptoCardSaid : Prop := Claim7.holds Tryz.pinned (.plain (OpenSpec.upto fnLineSpec)) fnLineUptoCard

/-- THE SECOND FORM's CARD OF 'laws.FnExactLineRun'. -/
def fnExactLineRunUptoCard : Claim7 := { stood := { row := fnExactLineRunUptoRow, standIns := [], harness := (true, "3ed9698b719269c357f7389c387aae72ea31fa6de625969d243afeddb2052c00"), looks := false }, kinds := [], alts := [], laidByText := true, laidKinds := [.data, .pinned], laidTests := true, laidLooks := .later }
def FnExactLineRunUptoCardSaid : Prop := Claim7.holds Tryz.pinned (.plain (OpenSpec.upto fnExactLineRunSpec)) fnExactLineRunUptoCard
end Rows
end Go.Proofs.YtkcghhkkepndnaaGreatDoor
