/-
  DERIVED. GIVEN WITH THE SEED: THE PROGRAM's TIES (one call each: nine closed facts by the kernel) AND EACH ROW's TIE, after the 31st guide's Derived/Test/Toyas{Tie, Card}.lean. No idea stands in it: it is a product of the set-up. Laid BY PROGRAM, IN A SANDBOX (cutbox-door.mjs). By AI agents, Wed Nov 11 2026. No macro, syntax, notation, axiom, sorry.
-/
import Derived.Test.YtlfeandnpflaaaaDoorRows
import Derived.LaidByTextLater
import Derived.SevenTiedAt
import Derived.LaidSub
import Derived.LaidOnce
namespace Go.Proofs.YtlfeandnpflaaaaDoor
open Go
set_option maxRecDepth 100000
theorem seatTie1 : Tryd.prog.laidByTextLater [("ravelin/rvc.inHalf", Rows.laid_ravelin_rvc_inHalf), ("ravelin/rvc.inWord", Rows.laid_ravelin_rvc_inWord)] [.data, .data] true :=
  Program.laidByTextLater_by_one 36 8 133 (by kernel_rfl) (by kernel_rfl) (by kernel_rfl) (by kernel_rfl) (by kernel_rfl) (by kernel_rfl) (fun _ _ => by kernel_rfl)
theorem noOwnUnsafe : Tryd.pinned.checked.prog.headLifts.contains "ownunsafe" = false := by kernel_rfl
theorem tie : Tryd.prog.laidByTextLater [("ravelin/rvc.inHalf", Rows.laid_ravelin_rvc_inHalf), ("ravelin/rvc.inWord", Rows.laid_ravelin_rvc_inWord)] [.data, .data] true :=
  Program.laidByTextLater.sub seatTie1 ["ravelin/rvc.inHalf", "ravelin/rvc.inWord"] (by kernel_rfl) (by kernel_rfl)
theorem decodeTotal_row_tie : Rows.decodeTotalRow.laidByTextAt .later Tryd.pinned [.data, .data] true :=
  OpenClaim.laidByTextAt_later rfl rfl tie noOwnUnsafe
theorem decodeWho_row_tie : Rows.decodeWhoRow.laidByTextAt .later Tryd.pinned [.data, .data] true :=
  OpenClaim.laidByTextAt_later rfl rfl tie noOwnUnsafe
theorem decodeTotalUpto_row_tie : Rows.decodeTotalUptoRow.laidByTextAt .later Tryd.pinned [.data, .data] true :=
  OpenClaim.laidByTextAt_later rfl rfl tie noOwnUnsafe
theorem decodeWhoUpto_row_tie : Rows.decodeWhoUptoRow.laidByTextAt .later Tryd.pinned [.data, .data] true :=
  OpenClaim.laidByTextAt_later rfl rfl tie noOwnUnsafe
end Go.Proofs.YtlfeandnpflaaaaDoor
