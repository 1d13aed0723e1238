/-
  DERIVED. GIVEN WITH THE SEED: THE PROGRAM's TIES (one call each: nine closed facts by the kernel) AND EACH ROW's TIE, after the 31st guide's Derived/Test/Toyas{Tie, Card}.lean. No idea stands in it: it is a product of the set-up. Laid BY PROGRAM, IN A SANDBOX (cutbox-door.mjs). By AI agents, Wed Nov 11 2026. No macro, syntax, notation, axiom, sorry.
-/
import Derived.Test.YtkfnhjcafllpkaaDoorRows
import Derived.LaidByTextLater
import Derived.SevenTiedAt
import Derived.LaidSub
import Derived.LaidOnce
namespace Go.Proofs.YtkfnhjcafllpkaaDoor
open Go
set_option maxRecDepth 100000
theorem seatTie1 : Tryd.prog.laidByTextLater [("errors.errorType", Rows.laid_errors_errorType), ("prekeys/prekeys.ErrConfig", Rows.laid_prekeys_prekeys_ErrConfig), ("prekeys/prekeys.ErrName", Rows.laid_prekeys_prekeys_ErrName), ("prekeys/prekeys.ErrKey", Rows.laid_prekeys_prekeys_ErrKey), ("prekeys/prekeys.ErrID", Rows.laid_prekeys_prekeys_ErrID), ("prekeys/prekeys.ErrCount", Rows.laid_prekeys_prekeys_ErrCount), ("prekeys/prekeys.ErrKind", Rows.laid_prekeys_prekeys_ErrKind), ("prekeys/prekeys.ErrShort", Rows.laid_prekeys_prekeys_ErrShort), ("prekeys/prekeys.ErrFrame", Rows.laid_prekeys_prekeys_ErrFrame), ("prekeys/prekeys.ErrDown", Rows.laid_prekeys_prekeys_ErrDown)] [.handle, .sentinel, .sentinel, .sentinel, .sentinel, .sentinel, .sentinel, .sentinel, .sentinel, .sentinel] true :=
  Program.laidByTextLater_by_one 202 8 65 (by kernel_rfl) (by kernel_rfl) (by kernel_rfl) (by kernel_rfl) (by kernel_rfl) (by kernel_rfl) (fun _ _ => by kernel_rfl)
theorem noOwnUnsafe : Tryd.pinned.checked.prog.headLifts.contains "ownunsafe" = false := by kernel_rfl
theorem tie : Tryd.prog.laidByTextLater [("errors.errorType", Rows.laid_errors_errorType), ("prekeys/prekeys.ErrConfig", Rows.laid_prekeys_prekeys_ErrConfig), ("prekeys/prekeys.ErrName", Rows.laid_prekeys_prekeys_ErrName), ("prekeys/prekeys.ErrKey", Rows.laid_prekeys_prekeys_ErrKey), ("prekeys/prekeys.ErrID", Rows.laid_prekeys_prekeys_ErrID), ("prekeys/prekeys.ErrCount", Rows.laid_prekeys_prekeys_ErrCount), ("prekeys/prekeys.ErrKind", Rows.laid_prekeys_prekeys_ErrKind), ("prekeys/prekeys.ErrShort", Rows.laid_prekeys_prekeys_ErrShort), ("prekeys/prekeys.ErrFrame", Rows.laid_prekeys_prekeys_ErrFrame), ("prekeys/prekeys.ErrDown", Rows.laid_prekeys_prekeys_ErrDown)] [.handle, .sentinel, .sentinel, .sentinel, .sentinel, .sentinel, .sentinel, .sentinel, .sentinel, .sentinel] true :=
  Program.laidByTextLater.sub seatTie1 ["errors.errorType", "prekeys/prekeys.ErrConfig", "prekeys/prekeys.ErrName", "prekeys/prekeys.ErrKey", "prekeys/prekeys.ErrID", "prekeys/prekeys.ErrCount", "prekeys/prekeys.ErrKind", "prekeys/prekeys.ErrShort", "prekeys/prekeys.ErrFrame", "prekeys/prekeys.ErrDown"] (by kernel_rfl) (by kernel_rfl)
theorem names_row_tie : Rows.namesRow.laidByTextAt .later Tryd.pinned [.handle, .sentinel, .sentinel, .sentinel, .sentinel, .sentinel, .sentinel, .sentinel, .sentinel, .sentinel] true :=
  OpenClaim.laidByTextAt_later rfl rfl tie noOwnUnsafe
theorem namesUpto_row_tie : Rows.namesUptoRow.laidByTextAt .later Tryd.pinned [.handle, .sentinel, .sentinel, .sentinel, .sentinel, .sentinel, .sentinel, .sentinel, .sentinel, .sentinel] true :=
  OpenClaim.laidByTextAt_later rfl rfl tie noOwnUnsafe
end Go.Proofs.YtkfnhjcafllpkaaDoor
