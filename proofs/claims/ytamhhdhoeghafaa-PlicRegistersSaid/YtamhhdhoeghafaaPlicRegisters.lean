/-
  PlicRegisters of layer 12: its walk. No condition but what the calls lean on.
-/
import Derived.Test.YtamhhdhoeghafaaPRegs
namespace Go.Proofs.Ytamhhdhoeghafaa.plicRegisters
open Go.ChangeShapes Go.WideShapes Go.ChangeAt Go.RowKit
set_option linter.unusedVariables false
set_option linter.unusedSimpArgs false
theorem own : ownKnob Try.prog.godebug = none := by kernel_rfl
theorem walk (L : List Po) (A : Option Addr) (n : Nat) (a0 a1 a2 : Int) (w0 : (Lit.int .i64 a0).wf = true) (w1 : (Lit.int .i64 a1).wf = true) (w2 : (Lit.int .u64 a2).wf = true) (W : World) (hrd : RdPo W W.heap.size A L) (hraw : ∀ c ∈ L, c.Raw) (hlen : L.length ≤ 9223372036854775807) :
    Calls Try.prog 6 #[.slice A L.length n, .int .i64 a0, .int .i64 a1, .int .u64 a2] W fun e w' => e = .returned (.bool true) ∧ Below W.heap.size W w' := regs12_w L A n a0 a1 a2 (i64_bd w0).1 (i64_bd w0).2 (i64_bd w1).1 (i64_bd w1).2 (u64_bd w2).1 (u64_bd w2).2 W hrd hraw hlen (ptb_any W)
end Go.Proofs.Ytamhhdhoeghafaa.plicRegisters
