/-
  RamBack of layer 11: its walk. No condition.
-/
import Derived.Test.YteebmikjikjhmaaDoorQBack
namespace Go.Proofs.YteebmikjikjhmaaDoor.ramBack
open Go.ChangeShapes Go.WideShapes Go.ChangeAt Go.RowKit
set_option linter.unusedVariables false
set_option linter.unusedSimpArgs false
theorem own : ownKnob Tryd.prog.godebug = none := by kernel_rfl
theorem walk (L : List Nu) (A : Option Addr) (n : Nat) (a0 a1 a2 : Int) (w0 : (Lit.int .i64 a0).wf = true) (w1 : (Lit.int .i64 a1).wf = true) (w2 : (Lit.int .u64 a2).wf = true) (W : World) (hrd : RdNu W W.heap.size A L) (hraw : ∀ c ∈ L, c.Raw) (hlen : L.length ≤ 9223372036854775807) (tb : Tb W) :
    Calls Tryd.prog 5 #[.slice A L.length n, .int .i64 a0, .int .i64 a1, .int .u64 a2] W fun e w' => e = .returned (.bool true) ∧ Below W.heap.size W w' :=
  back_w L A n a0 a1 a2 (i64_bd w0).1 (i64_bd w0).2 (i64_bd w1).1 (i64_bd w1).2 (u64_bd w2).1 (u64_bd w2).2 W hrd hraw hlen tb
end Go.Proofs.YteebmikjikjhmaaDoor.ramBack
