/-
  PlicKnown of layer 12: its walk. No condition but what the calls lean on.
-/
import Derived.Test.YtamhhdhoeghafaaPKnown
namespace Go.Proofs.Ytamhhdhoeghafaa.plicKnown
open Go.ChangeShapes Go.WideShapes Go.ChangeAt Go.RowKit
set_option linter.unusedVariables false
set_option linter.unusedSimpArgs false
theorem own : ownKnob Try.prog.godebug = none := by kernel_rfl
theorem walk (W : World) :
    Calls Try.prog 7 #[] W fun e w' => e = .returned (.bool true) ∧ Below W.heap.size W w' := known12_w W (ptb_any W)
end Go.Proofs.Ytamhhdhoeghafaa.plicKnown
