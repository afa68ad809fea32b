/-
  ClintHalves of layer 13: its walk. No condition but what the calls lean on.
-/
import Derived.Test.YtlpijioiopbmpaaTHalves
namespace Go.Proofs.Ytlpijioiopbmpaa.clintHalves
open Go.ChangeShapes Go.WideShapes Go.ChangeAt Go.RowKit
set_option linter.unusedVariables false
set_option linter.unusedSimpArgs false
theorem own : ownKnob Try.prog.godebug = none := by kernel_rfl
theorem walk (a0 a1 : Int) (a2 : Bool) (a3 : Int) (w0 : (Lit.int .u64 a0).wf = true) (w1 : (Lit.int .u64 a1).wf = true) (w3 : (Lit.int .u64 a3).wf = true) (W : World) :
    Calls Try.prog 4 #[.int .u64 a0, .int .u64 a1, .bool a2, .int .u64 a3] W fun e w' => e = .returned (.bool true) ∧ Below W.heap.size W w' := halves13_w a0 a1 a2 a3 (u64_bd w0).1 (u64_bd w0).2 (u64_bd w1).1 (u64_bd w1).2 (u64_bd w3).1 (u64_bd w3).2 W (ttb_any W)
end Go.Proofs.Ytlpijioiopbmpaa.clintHalves
