/-
  SerialTells of layer 14: its walk. No condition but what the calls lean on.
-/
import Derived.Test.YtnimpgamiagedaaUTells
namespace Go.Proofs.Ytnimpgamiagedaa.serialTells
open Go.ChangeShapes Go.WideShapes Go.ChangeAt Go.RowKit
set_option linter.unusedVariables false
set_option linter.unusedSimpArgs false
theorem own : ownKnob Try.prog.godebug = none := by kernel_rfl
theorem walk (L1 : List Ui) (A1 : Option Addr) (n1 : Nat) (L2 : List Ui) (A2 : Option Addr) (n2 : Nat) (L3 : List Uv) (A3 : Option Addr) (n3 : Nat) (a0 : Int) (w0 : (Lit.int .u8 a0).wf = true) (W : World) (hrd1 : RdUi W W.heap.size A1 L1) (hraw1 : ∀ c ∈ L1, c.Raw) (hlen1 : L1.length ≤ 9223372036854775807) (hrd2 : RdUi W W.heap.size A2 L2) (hraw2 : ∀ c ∈ L2, c.Raw) (hlen2 : L2.length ≤ 9223372036854775807) (hrd3 : RdUv W W.heap.size A3 L3) (hraw3 : ∀ c ∈ L3, c.Raw) (hlen3 : L3.length ≤ 9223372036854775807) :
    Calls Try.prog 5 #[.slice A1 L1.length n1, .slice A2 L2.length n2, .slice A3 L3.length n3, .int .u8 a0] W fun e w' => e = .returned (.bool true) ∧ Below W.heap.size W w' := tells14_w L1 A1 n1 L2 A2 n2 L3 A3 n3 a0 (u8_bdUb w0).1 (u8_bdUb w0).2 W hrd1 hraw1 hlen1 hrd2 hraw2 hlen2 hrd3 hraw3 hlen3 (utb_any W)
end Go.Proofs.Ytnimpgamiagedaa.serialTells
