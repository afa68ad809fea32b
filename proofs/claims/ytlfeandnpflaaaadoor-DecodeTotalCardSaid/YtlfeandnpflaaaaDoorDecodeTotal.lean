/-
  DecodeTotal of layer 10: its walk. No condition but what the tables hold.
-/
import Derived.Test.YtlfeandnpflaaaaDoorNTotal
namespace Go.Proofs.YtlfeandnpflaaaaDoor.decodeTotal
open Go.ChangeShapes Go.WideShapes Go.ChangeAt Go.RowKit
set_option linter.unusedVariables false
set_option linter.unusedSimpArgs false
theorem own : ownKnob Tryd.prog.godebug = none := by kernel_rfl
theorem u32_bd {a : Int} (h : (Lit.int .u32 a).wf = true) : 0 ≤ a ∧ a < 4294967296 := by
  have hm0 : IntKind.u32.min = 0 := rfl
  have hm1 : IntKind.u32.max = 4294967295 := rfl
  simp only [Lit.wf, Bool.and_eq_true, decide_eq_true_eq, hm0, hm1] at h
  omega
theorem walk (a0 : Int) (a1 : Int) (w0 : (Lit.int .u32 a0).wf = true) (w1 : (Lit.int .u32 a1).wf = true) (w : World) (hz : Tb w) :
    Calls Tryd.prog 3 #[.int .u32 a0, .int .u32 a1] w fun e w' => e = .returned (.bool true) ∧ Grown w w' :=
  (total_w a0 a1 (u32_bd w0).1 (u32_bd w0).2 (u32_bd w1).1 (u32_bd w1).2 w hz).mono fun _ _ h => ⟨h.1, h.2.grown⟩
end Go.Proofs.YtlfeandnpflaaaaDoor.decodeTotal
