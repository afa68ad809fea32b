/-
  BusParts of layer 15: its walk. No condition but what the calls lean on.
-/
import Derived.Test.YtikibfpfieoabaaJParts
namespace Go.Proofs.Ytikibfpfieoabaa.busParts
open Go.ChangeShapes Go.WideShapes Go.ChangeAt Go.RowKit
set_option linter.unusedVariables false
set_option linter.unusedSimpArgs false
theorem own : ownKnob Try.prog.godebug = none := by kernel_rfl
theorem walk (a0 a1 a2 : Int) (w0 : (Lit.int .u64 a0).wf = true) (w1 : (Lit.int .u64 a1).wf = true) (w2 : (Lit.int .u64 a2).wf = true) (W : World) :
    Calls Try.prog 5 #[.int .u64 a0, .int .u64 a1, .int .u64 a2] W fun e w' => e = .returned (.bool true) ∧ Below W.heap.size W w' := parts_w a0 a1 a2 (u64_bd w0).1 (u64_bd w0).2 (u64_bd w1).1 (u64_bd w1).2 (u64_bd w2).1 (u64_bd w2).2 W (jtb_any W)
end Go.Proofs.Ytikibfpfieoabaa.busParts
