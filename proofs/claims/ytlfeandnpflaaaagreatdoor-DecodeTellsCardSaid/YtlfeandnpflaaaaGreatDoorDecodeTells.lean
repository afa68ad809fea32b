/-
  DecodeTells of layer 10: its walk. No condition but what the tables hold.
-/
import Derived.Test.YtlfeandnpflaaaaGreatDoorMM
namespace Go.Proofs.YtlfeandnpflaaaaGreatDoor.decodeTells
open Go.ChangeShapes Go.WideShapes Go.ChangeAt Go.RowKit
set_option linter.unusedVariables false
set_option linter.unusedSimpArgs false
theorem own : ownKnob Tryz.prog.godebug = none := by kernel_rfl
theorem u32_bd {a : Int} (h : (Lit.int .u32 a).wf = true) : 0 ≤ a ∧ a < 4294967296 := by
  have hm0 : IntKind.u32.min = 0 := rfl
  have hm1 : IntKind.u32.max = 4294967295 := rfl
  simp only [Lit.wf, Bool.and_eq_true, decide_eq_true_eq, hm0, hm1] at h
  omega
theorem walk (a0 : Int) (w0 : (Lit.int .u32 a0).wf = true) (w : World) (hz : Tb w) :
    Calls Tryz.prog 3 #[.int .u32 a0] w fun e w' => e = .returned (.bool true) ∧ Grown w w' :=
  (tells_w a0 (u32_bd w0).1 (u32_bd w0).2 w hz).mono fun _ _ h => ⟨h.1, h.2.grown⟩
end Go.Proofs.YtlfeandnpflaaaaGreatDoor.decodeTells
