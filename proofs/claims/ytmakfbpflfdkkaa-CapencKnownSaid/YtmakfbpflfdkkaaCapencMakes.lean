/-
  CapencMakes: any number is told as a register holds it, and any root: the walk of the law. No condition.
-/
import Derived.Test.YtmakfbpflfdkkaaERef
namespace Go.Proofs.Ytmakfbpflfdkkaa.capencMakes
open Go.ChangeShapes Go.WideShapes Go.ChangeAt Go.RowKit
set_option linter.unusedVariables false
set_option linter.unusedSimpArgs false
theorem own : ownKnob Try.prog.godebug = none := by kernel_rfl
set_option maxHeartbeats 4000000 in
set_option maxRecDepth 100000 in
theorem makes_w (mo n : Int) (w : World) :
    Calls Try.prog 5 #[.int .i64 mo, .int .u64 n] w fun e' w' => e' = .returned (.bool true) ∧ Kp w w' := by
  go_enter Try.func5, Try.ntmps5
  go_wp2_with (first
    | (go_at_call 19; (with_reducible refine (number_w _ _).mono ?_); rintro e' w1 ⟨rfl, qk⟩; have K1 := Lib.hid qk; clear qk)
    | (go_at_call 20; (with_reducible refine (refNumber_w _ _).mono ?_); rintro e' w2 ⟨rfl, qk⟩; have K2 := Lib.hid (K1.out.trans qk); clear qk)
    | (go_at_call 21; (with_reducible refine (root_w _ _ _).mono ?_); rintro e' w3 ⟨rfl, qk⟩; have K3 := Lib.hid (K2.out.trans qk); clear qk)
    | (go_at_call 22; (with_reducible refine (refRoot_w _ _ _).mono ?_); rintro e' w4 ⟨rfl, qk⟩; have K4 := Lib.hid (K3.out.trans qk); clear qk)
    | (go_at_call 14; (with_reducible refine (works_w _).mono ?_); rintro e' w5 ⟨rfl, qk⟩; have K5 := Lib.hid (K4.out.trans qk); clear qk))
  go_ret
  exact ⟨rfl, K5.out⟩
theorem walk (a0 a1 : Int) (w0 : (Lit.int .i64 a0).wf = true) (w1 : (Lit.int .u64 a1).wf = true) (w : World) :
    Calls Try.prog 5 #[.int .i64 a0, .int .u64 a1] w fun e w' => e = .returned (.bool true) ∧ Grown w w' :=
  (makes_w a0 a1 w).mono fun _ _ h => ⟨h.1, h.2.grown⟩
end Go.Proofs.Ytmakfbpflfdkkaa.capencMakes
