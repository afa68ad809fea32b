/-
  ClintKnown of layer 13: its walk. No condition but what the calls lean on.
-/
import Derived.Test.YtlpijioiopbmpaaTKnown
namespace Go.Proofs.Ytlpijioiopbmpaa.clintKnown
open Go.ChangeShapes Go.WideShapes Go.ChangeAt Go.RowKit
set_option linter.unusedVariables false
set_option linter.unusedSimpArgs false
theorem own : ownKnob Try.prog.godebug = none := by kernel_rfl
theorem walk (W : World) :
    Calls Try.prog 6 #[] W fun e w' => e = .returned (.bool true) ∧ Below W.heap.size W w' := known13c_w W (ttb_any W)
end Go.Proofs.Ytlpijioiopbmpaa.clintKnown
