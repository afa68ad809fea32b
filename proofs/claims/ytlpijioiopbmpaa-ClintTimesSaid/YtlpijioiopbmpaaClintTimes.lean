/-
  ClintTimes of layer 13: its walk. No condition but what the calls lean on.
-/
import Derived.Test.YtlpijioiopbmpaaTTimes
namespace Go.Proofs.Ytlpijioiopbmpaa.clintTimes
open Go.ChangeShapes Go.WideShapes Go.ChangeAt Go.RowKit
set_option linter.unusedVariables false
set_option linter.unusedSimpArgs false
theorem own : ownKnob Try.prog.godebug = none := by kernel_rfl
theorem walk (L : List Tn) (A : Option Addr) (n : Nat) (a0 : Int) (w0 : (Lit.int .u64 a0).wf = true) (W : World) (hrd : RdTn W W.heap.size A L) (hraw : ∀ c ∈ L, c.Raw) (hlen : L.length ≤ 9223372036854775807) :
    Calls Try.prog 5 #[.int .u64 a0, .slice A L.length n] W fun e w' => e = .returned (.bool true) ∧ Below W.heap.size W w' := times13_w a0 (u64_bd w0).1 (u64_bd w0).2 L A n W hrd hraw hlen (ttb_any W)
end Go.Proofs.Ytlpijioiopbmpaa.clintTimes
