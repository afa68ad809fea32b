/-
  DecodeKnown of layer 10: its walk. No condition but what the tables hold.
-/
import Derived.Test.YtlfeandnpflaaaaGreatDoorNKnown
namespace Go.Proofs.YtlfeandnpflaaaaGreatDoor.decodeKnown
open Go.ChangeShapes Go.WideShapes Go.ChangeAt Go.RowKit
set_option linter.unusedVariables false
set_option linter.unusedSimpArgs false
theorem own : ownKnob Tryz.prog.godebug = none := by kernel_rfl
theorem walk (w : World) (hz : Tb w) : Calls Tryz.prog 4 #[] w fun e w' => e = .returned (.bool true) ∧ Grown w w' :=
  (known10_w w hz).mono fun _ _ h => ⟨h.1, h.2.grown⟩
end Go.Proofs.YtlfeandnpflaaaaGreatDoor.decodeKnown
