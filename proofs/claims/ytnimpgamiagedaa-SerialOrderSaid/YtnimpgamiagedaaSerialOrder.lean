/-
  SerialOrder of layer 14: its walk. No condition but what the calls lean on.
-/
import Derived.Test.YtnimpgamiagedaaUOrder
namespace Go.Proofs.Ytnimpgamiagedaa.serialOrder
open Go.ChangeShapes Go.WideShapes Go.ChangeAt Go.RowKit
set_option linter.unusedVariables false
set_option linter.unusedSimpArgs false
theorem own : ownKnob Try.prog.godebug = none := by kernel_rfl
theorem walk (L1 : List Ub) (A1 : Option Addr) (n1 : Nat) (L2 : List Ui) (A2 : Option Addr) (n2 : Nat) (W : World) (hrd1 : RdUb W W.heap.size A1 L1) (hraw1 : ∀ c ∈ L1, c.Raw) (hlen1 : L1.length ≤ 9223372036854775807) (hrd2 : RdUi W W.heap.size A2 L2) (hraw2 : ∀ c ∈ L2, c.Raw) (hlen2 : L2.length ≤ 9223372036854775807) :
    Calls Try.prog 4 #[.slice A1 L1.length n1, .slice A2 L2.length n2] W fun e w' => e = .returned (.bool true) ∧ Below W.heap.size W w' := order14_w L1 A1 n1 L2 A2 n2 W hrd1 hraw1 hlen1 hrd2 hraw2 hlen2 (utb_any W)
end Go.Proofs.Ytnimpgamiagedaa.serialOrder
