/-
  RamTags of layer 11: its walk. No condition.
-/
import Derived.Test.YteebmikjikjhmaaDoorQTags
namespace Go.Proofs.YteebmikjikjhmaaDoor.ramTags
open Go.ChangeShapes Go.WideShapes Go.ChangeAt Go.RowKit
set_option linter.unusedVariables false
set_option linter.unusedSimpArgs false
theorem own : ownKnob Tryd.prog.godebug = none := by kernel_rfl
theorem walk (L : List Ac) (A : Option Addr) (n : Nat) (W : World) (hrd : RdAc W W.heap.size A L) (hraw : ∀ c ∈ L, c.Raw) (hlen : L.length ≤ 9223372036854775807) (tb : Tb W) :
    Calls Tryd.prog 4 #[.slice A L.length n] W fun e w' => e = .returned (.bool true) ∧ Below W.heap.size W w' :=
  tags_w L A n W hrd hraw hlen tb
end Go.Proofs.YteebmikjikjhmaaDoor.ramTags
