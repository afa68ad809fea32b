/-
  PlicOnce of layer 12: its walk. No condition but what the calls lean on.
-/
import Derived.Test.YtamhhdhoeghafaaPOnce
namespace Go.Proofs.Ytamhhdhoeghafaa.plicOnce
open Go.ChangeShapes Go.WideShapes Go.ChangeAt Go.RowKit
set_option linter.unusedVariables false
set_option linter.unusedSimpArgs false
theorem own : ownKnob Try.prog.godebug = none := by kernel_rfl
theorem walk (L : List Po) (A : Option Addr) (n : Nat) (L2 : List Pm) (A2 : Option Addr) (n2 : Nat) (a0 : Bool) (W : World) (hrd : RdPo W W.heap.size A L) (hraw : ∀ c ∈ L, c.Raw) (hlen : L.length ≤ 9223372036854775807) (hrd2 : RdPm W W.heap.size A2 L2) (hraw2 : ∀ c ∈ L2, c.Raw) (hlen2 : L2.length ≤ 9223372036854775807) :
    Calls Try.prog 5 #[.slice A L.length n, .bool a0, .slice A2 L2.length n2] W fun e w' => e = .returned (.bool true) ∧ Below W.heap.size W w' := by
  cases a0
  · exact once12_0 L A n L2 A2 n2 W hrd hraw hlen hrd2 hraw2 hlen2 (ptb_any W)
  · exact once12_1 L A n L2 A2 n2 W hrd hraw hlen hrd2 hraw2 hlen2 (ptb_any W)
end Go.Proofs.Ytamhhdhoeghafaa.plicOnce
