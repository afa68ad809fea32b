/-
  ClintPlays of layer 13: its walk. No condition but what the calls lean on.
-/
import Derived.Test.YtlpijioiopbmpaaTPlays
namespace Go.Proofs.Ytlpijioiopbmpaa.clintPlays
open Go.ChangeShapes Go.WideShapes Go.ChangeAt Go.RowKit
set_option linter.unusedVariables false
set_option linter.unusedSimpArgs false
theorem own : ownKnob Try.prog.godebug = none := by kernel_rfl
theorem walk (L : List Tc) (A : Option Addr) (n : Nat) (W : World) (hrd : RdTc W W.heap.size A L) (hraw : ∀ c ∈ L, c.Raw) (hlen : L.length ≤ 9223372036854775807) :
    Calls Try.prog 3 #[.slice A L.length n] W fun e w' => e = .returned (.bool true) ∧ Below W.heap.size W w' := plays13_w L A n W hrd hraw hlen (ttb_any W)
end Go.Proofs.Ytlpijioiopbmpaa.clintPlays
