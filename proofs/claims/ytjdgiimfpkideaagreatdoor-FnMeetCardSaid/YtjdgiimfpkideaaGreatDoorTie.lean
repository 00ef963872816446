/-
  DERIVED. GIVEN WITH THE SEED: THE PROGRAM's TIES (one call each: nine closed facts by the kernel) AND EACH ROW's TIE, after the 31st guide's Derived/Test/Toyas{Tie, Card}.lean. No idea stands in it: it is a product of the set-up. Laid BY PROGRAM, IN A SANDBOX (cutbox-door.mjs). By AI agents, Wed Nov 11 2026. No macro, syntax, notation, axiom, sorry.
-/
import Derived.Test.YtjdgiimfpkideaaGreatDoorRows
import Derived.LaidByTextLater
import Derived.SevenTiedAt
import Derived.LaidSub
import Derived.LaidOnce
namespace Go.Proofs.YtjdgiimfpkideaaGreatDoor
open Go
set_option maxRecDepth 100000
theorem seatTie1 : Tryz.prog.laidByTextLater [("errors.errorType", Rows.laid_errors_errorType), ("unicode.White_Space", Rows.laid_unicode_White_Space), ("strings.asciiSpace", Rows.laid_strings_asciiSpace), ("loop.example/g00351/impl.eventNames", Rows.laid_loop_example_g00351_impl_eventNames), ("loop.example/g00351/impl.nextStates", Rows.laid_loop_example_g00351_impl_nextStates)] [.handle, .listed, .data, .data, .data] true :=
  Program.laidByTextLater_by_one 66 8 257 (by kernel_rfl) (by kernel_rfl) (by kernel_rfl) (by kernel_rfl) (by kernel_rfl) (by kernel_rfl) (fun _ _ => by kernel_rfl)
theorem noOwnUnsafe : Tryz.pinned.checked.prog.headLifts.contains "ownunsafe" = false := by kernel_rfl
theorem tie : Tryz.prog.laidByTextLater [("errors.errorType", Rows.laid_errors_errorType), ("unicode.White_Space", Rows.laid_unicode_White_Space), ("strings.asciiSpace", Rows.laid_strings_asciiSpace), ("loop.example/g00351/impl.eventNames", Rows.laid_loop_example_g00351_impl_eventNames), ("loop.example/g00351/impl.nextStates", Rows.laid_loop_example_g00351_impl_nextStates)] [.handle, .listed, .data, .data, .data] true :=
  Program.laidByTextLater.sub seatTie1 ["errors.errorType", "unicode.White_Space", "strings.asciiSpace", "loop.example/g00351/impl.eventNames", "loop.example/g00351/impl.nextStates"] (by kernel_rfl) (by kernel_rfl)
theorem fnMeet_row_tie : Rows.fnMeetRow.laidByTextAt .later Tryz.pinned [.handle, .listed, .data, .data, .data] true :=
  OpenClaim.laidByTextAt_later rfl rfl tie noOwnUnsafe
theorem fnExactMeetRun_row_tie : Rows.fnExactMeetRunRow.laidByTextAt .later Tryz.pinned [.handle, .listed, .data, .data, .data] true :=
  OpenClaim.laidByTextAt_later rfl rfl tie noOwnUnsafe
theorem fnMeetUpto_row_tie : Rows.fnMeetUptoRow.laidByTextAt .later Tryz.pinned [.handle, .listed, .data, .data, .data] true :=
  OpenClaim.laidByTextAt_later rfl rfl tie noOwnUnsafe
theorem fnExactMeetRunUpto_row_tie : Rows.fnExactMeetRunUptoRow.laidByTextAt .later Tryz.pinned [.handle, .listed, .data, .data, .data] true :=
  OpenClaim.laidByTextAt_later rfl rfl tie noOwnUnsafe
end Go.Proofs.YtjdgiimfpkideaaGreatDoor
