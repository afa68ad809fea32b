/-
  RamKnown of layer 11: its walk. No condition.
-/
import Derived.Test.YteebmikjikjhmaaDoorQRKnown
namespace Go.Proofs.YteebmikjikjhmaaDoor.ramKnown
open Go.ChangeShapes Go.WideShapes Go.ChangeAt Go.RowKit
set_option linter.unusedVariables false
set_option linter.unusedSimpArgs false
theorem own : ownKnob Tryd.prog.godebug = none := by kernel_rfl
theorem walk (W : World) (tb : Tb W) :
    Calls Tryd.prog 6 #[] W fun e w' => e = .returned (.bool true) ∧ Below W.heap.size W w' :=
  rknown_w W tb
end Go.Proofs.YteebmikjikjhmaaDoor.ramKnown
