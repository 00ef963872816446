/-
  DERIVED. GIVEN WITH THE SEED: THE CARDS: each row of YtdjlkchdomllhacDoorRows.lean that lists a variable, with what it lists TIED to the program's text (the seventh form; the later family's looks); each row that meets fmt, with fmt's text TOLD by the authors' own Lean function (tested against real Go, not proved from fmt's source: count such statements apart). THE CARD IS WHAT COUNTS. Prove the row's statement (the work); the ties are given (YtdjlkchdomllhacDoorTie.lean); close each card by the builder's one call (the guide's Derived/Test/ToyasCard.lean, 'card_holds'). Laid BY PROGRAM, IN A SANDBOX (cutbox-door.mjs). By AI agents, Wed Nov 11 2026. No macro, syntax, notation, axiom, sorry.
-/
import Derived.Test.YtdjlkchdomllhacDoorRows
import GoSem.ClaimSeven
namespace Go.Proofs.YtdjlkchdomllhacDoor
namespace Rows

/-- THE TIED CARD OF 'laws.FnExactFcs16'. -/
def fnExactFcs16Card : Claim7 := { stood := { row := fnExactFcs16Row, standIns := [], harness := (true, "28b698cc411f2261af3af6eb86499ebc4248b7d4d389133792d8410d2871cf87"), looks := false }, kinds := [], alts := [], laidByText := true, laidKinds := [.data, .pinned], laidTests := true, laidLooks := .later }
def FnExactFcs16CardSaid : Prop := Claim7.holds Tryd.pinned (.plain (OpenSpec.ofChange fnExactFcs16Spec)) fnExactFcs16Card

/-- THE TIED CARD OF 'laws.FnExactFcs32'. -/
def fnExactFcs32Card : Claim7 := { stood := { row := fnExactFcs32Row, standIns := [], harness := (true, "28b698cc411f2261af3af6eb86499ebc4248b7d4d389133792d8410d2871cf87"), looks := false }, kinds := [], alts := [], laidByText := true, laidKinds := [.data, .pinned], laidTests := true, laidLooks := .later }
def FnExactFcs32CardSaid : Prop := Claim7.holds Tryd.pinned (.plain (OpenSpec.ofChange fnExactFcs32Spec)) fnExactFcs32Card

/-- THE TIED CARD OF 'laws.FnExactTail'. -/
def fnExactTailCard : Claim7 := { stood := { row := fnExactTailRow, standIns := [], harness := (true, "28b698cc411f2261af3af6eb86499ebc4248b7d4d389133792d8410d2871cf87"), looks := false }, kinds := [], alts := [], laidByText := true, laidKinds := [.data, .pinned], laidTests := true, laidLooks := .later }
def FnExactTailCardSaid : Prop := Claim7.holds Tryd.pinned (.plain (OpenSpec.ofChange fnExactTailSpec)) fnExactTailCard

/-- THE TIED CARD OF 'laws.FnExactGood'. -/
def fnExactGoodCard : Claim7 := { stood := { row := fnExactGoodRow, standIns := [], harness := (true, "28b698cc411f2261af3af6eb86499ebc4248b7d4d389133792d8410d2871cf87"), looks := false }, kinds := [], alts := [], laidByText := true, laidKinds := [.data, .pinned], laidTests := true, laidLooks := .later }
def FnExactGoodCardSaid : Prop := Claim7.holds Tryd.pinned (.plain (OpenSpec.ofChange fnExactGoodSpec)) fnExactGoodCard

/-- THE SECOND FORM's CARD OF 'laws.FnExactFcs16'. -/
def fnExactFcs16UptoCard : Claim7 := { stood := { row := fnExactFcs16UptoRow, standIns := [], harness := (true, "28b698cc411f2261af3af6eb86499ebc4248b7d4d389133792d8410d2871cf87"), looks := false }, kinds := [], alts := [], laidByText := true, laidKinds := [.data, .pinned], laidTests := true, laidLooks := .later }
def FnExactFcs16UptoCardSaid : Prop := Claim7.holds Tryd.pinned (.plain (OpenSpec.upto fnExactFcs16Spec)) fnExactFcs16UptoCard

/-- THE SECOND FORM's CARD OF 'laws.FnExactFcs32'. -/
def fnExactFcs32UptoCard : Claim7 := { stood := { row := fnExactFcs32UptoRow, standIns := [], harness := (true, "28b698cc411f2261af3af6eb86499ebc4248b7d4d389133792d8410d2871cf87"), looks := false }, kinds := [], alts := [], laidByText := true, laidKinds := [.data, .pinned], laidTests := true, laidLooks := .later }
def FnExactFcs32UptoCardSaid : Prop := Claim7.holds Tryd.pinned (.plain (OpenSpec.upto fnExactFcs32Spec)) fnExactFcs32UptoCard

/-- THE SECOND FORM's CARD OF 'laws.FnExactTail'. -/
def fnExactTailUptoCard : Claim7 := { stood := { row := fnExactTailUptoRow, standIns := [], harness := (true, "28b698cc411f2261af3af6eb86499ebc4248b7d4d389133792d8410d2871cf87"), looks := false }, kinds := [], alts := [], laidByText := true, laidKinds := [.data, .pinned], laidTests := true, laidLooks := .later }
def FnExactTailUptoCardSaid : Prop := Claim7.holds Tryd.pinned (.plain (OpenSpec.upto fnExactTailSpec)) fnExactTailUptoCard

/-- THE SECOND FORM's CARD OF 'laws.FnExactGood'. -/
def fnExactGoodUptoCard : Claim7 := { stood := { row := fnExactGoodUptoRow, standIns := [], harness := (true, "28b698cc411f2261af3af6eb86499ebc4248b7d4d389133792d8410d2871cf87"), looks := false }, kinds := [], alts := [], laidByText := true, laidKinds := [.data, .pinned], laidTests := true, laidLooks := .later }
def FnExactGoodUptoCardSaid : Prop := Claim7.holds Tryd.pinned (.plain (OpenSpec.upto fnExactGoodSpec)) fnExactGoodUptoCard
end Rows
end Go.Proofs.YtdjlkchdomllhacDoor
