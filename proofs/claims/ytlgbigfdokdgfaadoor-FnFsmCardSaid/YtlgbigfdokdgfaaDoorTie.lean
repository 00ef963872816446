/-
  DERIVED. GIVEN WITH THE SEED: THE PROGRAM's TIES (one call each: nine closed facts by the kernel) AND EACH ROW's TIE, after the 31st guide's Derived/Test/Toyas{Tie, Card}.lean. No idea stands in it: it is a product of the set-up. Laid BY PROGRAM, IN A SANDBOX (cutbox-door.mjs). By AI agents, Wed Nov 11 2026. No macro, syntax, notation, axiom, sorry.
-/
import Derived.Test.YtlgbigfdokdgfaaDoorRows
import Derived.LaidByTextLater
import Derived.SevenTiedAt
import Derived.LaidSub
import Derived.LaidOnce
namespace Go.Proofs.YtlgbigfdokdgfaaDoor
open Go
set_option maxRecDepth 100000
theorem seatTie1 : Tryd.prog.laidByTextLater [("unicode.White_Space", Rows.laid_unicode_White_Space), ("strings.asciiSpace", Rows.laid_strings_asciiSpace), ("loop.example/g00351/impl.eventNames", Rows.laid_loop_example_g00351_impl_eventNames), ("loop.example/g00351/impl.nextStates", Rows.laid_loop_example_g00351_impl_nextStates)] [.listed, .data, .data, .data] true :=
  Program.laidByTextLater_by_one 59 8 257 (by kernel_rfl) (by kernel_rfl) (by kernel_rfl) (by kernel_rfl) (by kernel_rfl) (by kernel_rfl) (fun _ _ => by kernel_rfl)
theorem seatTie2 : Tryd.prog.laidByTextLater [("loop.example/g00351/impl.eventNames", Rows.laid_loop_example_g00351_impl_eventNames)] [.data] true :=
  Program.laidByTextLater_by_one 59 8 257 (by kernel_rfl) (by kernel_rfl) (by kernel_rfl) (by kernel_rfl) (by kernel_rfl) (by kernel_rfl) (fun _ _ => by kernel_rfl)
theorem noOwnUnsafe : Tryd.pinned.checked.prog.headLifts.contains "ownunsafe" = false := by kernel_rfl
theorem tie : Tryd.prog.laidByTextLater [("unicode.White_Space", Rows.laid_unicode_White_Space), ("strings.asciiSpace", Rows.laid_strings_asciiSpace), ("loop.example/g00351/impl.eventNames", Rows.laid_loop_example_g00351_impl_eventNames), ("loop.example/g00351/impl.nextStates", Rows.laid_loop_example_g00351_impl_nextStates)] [.listed, .data, .data, .data] true :=
  Program.laidByTextLater.sub seatTie1 ["unicode.White_Space", "strings.asciiSpace", "loop.example/g00351/impl.eventNames", "loop.example/g00351/impl.nextStates"] (by kernel_rfl) (by kernel_rfl)
theorem fnFsm_row_tie : Rows.fnFsmRow.laidByTextAt .later Tryd.pinned [.listed, .data, .data, .data] true :=
  OpenClaim.laidByTextAt_later rfl rfl tie noOwnUnsafe
theorem fnExactFsm_row_tie : Rows.fnExactFsmRow.laidByTextAt .later Tryd.pinned [.listed, .data, .data, .data] true :=
  OpenClaim.laidByTextAt_later rfl rfl tie noOwnUnsafe
theorem tie2 : Tryd.prog.laidByTextLater [("loop.example/g00351/impl.eventNames", Rows.laid_loop_example_g00351_impl_eventNames)] [.data] true :=
  Program.laidByTextLater.sub seatTie2 ["loop.example/g00351/impl.eventNames"] (by kernel_rfl) (by kernel_rfl)
theorem fnExactFsmEvents_row_tie : Rows.fnExactFsmEventsRow.laidByTextAt .later Tryd.pinned [.data] true :=
  OpenClaim.laidByTextAt_later rfl rfl tie2 noOwnUnsafe
theorem fnFsmUpto_row_tie : Rows.fnFsmUptoRow.laidByTextAt .later Tryd.pinned [.listed, .data, .data, .data] true :=
  OpenClaim.laidByTextAt_later rfl rfl tie noOwnUnsafe
theorem fnExactFsmUpto_row_tie : Rows.fnExactFsmUptoRow.laidByTextAt .later Tryd.pinned [.listed, .data, .data, .data] true :=
  OpenClaim.laidByTextAt_later rfl rfl tie noOwnUnsafe
theorem fnExactFsmEventsUpto_row_tie : Rows.fnExactFsmEventsUptoRow.laidByTextAt .later Tryd.pinned [.data] true :=
  OpenClaim.laidByTextAt_later rfl rfl tie2 noOwnUnsafe
end Go.Proofs.YtlgbigfdokdgfaaDoor
