/-
  RvcExpands of layer 8: its walk. No condition but what the tables hold.
-/
import Derived.Test.YtagoeceaobikaaaDoorVLaw
namespace Go.Proofs.YtagoeceaobikaaaDoor.rvcExpands
open Go.ChangeShapes Go.WideShapes Go.ChangeAt Go.RowKit
set_option linter.unusedVariables false
set_option linter.unusedSimpArgs false
theorem own : ownKnob Tryd.prog.godebug = none := by kernel_rfl
theorem u16_bd {a : Int} (h : (Lit.int .u16 a).wf = true) : 0 ≤ a ∧ a < 65536 := by
  have hm0 : IntKind.u16.min = 0 := rfl
  have hm1 : IntKind.u16.max = 65535 := rfl
  simp only [Lit.wf, Bool.and_eq_true, decide_eq_true_eq, hm0, hm1] at h
  omega
theorem walk (a0 : Int) (w0 : (Lit.int .u16 a0).wf = true) (w : World) (hz : Tb w) :
    Calls Tryd.prog 3 #[.int .u16 a0] w fun e w' => e = .returned (.bool true) ∧ Grown w w' := by
  obtain ⟨p0, q0⟩ := u16_bd w0
  obtain ⟨x0, rfl⟩ := Int.eq_ofNat_of_zero_le p0
  exact (expands_w x0 (by omega) w hz).mono fun _ _ h => ⟨h.1, h.2.grown⟩
end Go.Proofs.YtagoeceaobikaaaDoor.rvcExpands
