/-
  SerialRuns of layer 14: its walk. No condition but what the calls lean on.
-/
import Derived.Test.YtnimpgamiagedaaURuns
namespace Go.Proofs.Ytnimpgamiagedaa.serialRuns
open Go.ChangeShapes Go.WideShapes Go.ChangeAt Go.RowKit
set_option linter.unusedVariables false
set_option linter.unusedSimpArgs false
theorem own : ownKnob Try.prog.godebug = none := by kernel_rfl
theorem walk (L : List Uo) (A : Option Addr) (n : Nat) (W : World) (hrd : RdUo W W.heap.size A L) (hraw : ∀ c ∈ L, c.Raw) (hlen : L.length ≤ 9223372036854775807) :
    Calls Try.prog 3 #[.slice A L.length n] W fun e w' => e = .returned (.bool true) ∧ Below W.heap.size W w' := runs14_w L A n W hrd hraw hlen (utb_any W)
end Go.Proofs.Ytnimpgamiagedaa.serialRuns
