/-
  SerialKnown of layer 14: its walk. No condition but what the calls lean on.
-/
import Derived.Test.YtnimpgamiagedaaUKnown
namespace Go.Proofs.Ytnimpgamiagedaa.serialKnown
open Go.ChangeShapes Go.WideShapes Go.ChangeAt Go.RowKit
set_option linter.unusedVariables false
set_option linter.unusedSimpArgs false
theorem own : ownKnob Try.prog.godebug = none := by kernel_rfl
theorem walk (W : World) :
    Calls Try.prog 7 #[] W fun e w' => e = .returned (.bool true) ∧ Below W.heap.size W w' := known14_w W (utb_any W)
end Go.Proofs.Ytnimpgamiagedaa.serialKnown
