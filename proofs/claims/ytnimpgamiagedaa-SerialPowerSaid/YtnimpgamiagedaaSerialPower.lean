/-
  SerialPower of layer 14: its walk. No condition but what the calls lean on.
-/
import Derived.Test.YtnimpgamiagedaaUPower
namespace Go.Proofs.Ytnimpgamiagedaa.serialPower
open Go.ChangeShapes Go.WideShapes Go.ChangeAt Go.RowKit
set_option linter.unusedVariables false
set_option linter.unusedSimpArgs false
theorem own : ownKnob Try.prog.godebug = none := by kernel_rfl
theorem walk (L : List Uv) (A : Option Addr) (n : Nat) (a0 a1 a2 : Int) (w0 : (Lit.int .i64 a0).wf = true) (w1 : (Lit.int .i64 a1).wf = true) (w2 : (Lit.int .u64 a2).wf = true) (W : World) (hrd : RdUv W W.heap.size A L) (hraw : ∀ c ∈ L, c.Raw) (hlen : L.length ≤ 9223372036854775807) :
    Calls Try.prog 6 #[.int .i64 a0, .int .i64 a1, .int .u64 a2, .slice A L.length n] W fun e w' => e = .returned (.bool true) ∧ Below W.heap.size W w' := power14_w a0 a1 a2 (i64_bd w0).1 (i64_bd w0).2 (i64_bd w1).1 (i64_bd w1).2 (u64_bd w2).1 (u64_bd w2).2 L A n W hrd hraw hlen (utb_any W)
end Go.Proofs.Ytnimpgamiagedaa.serialPower
