/-
  CapencUnpacks: any two numbers, with a tag or without, are a capability: the walk of the law. No condition.
-/
import Derived.Test.YtmakfbpflfdkkaaERef
namespace Go.Proofs.Ytmakfbpflfdkkaa.capencUnpacks
open Go.ChangeShapes Go.WideShapes Go.ChangeAt Go.RowKit
set_option linter.unusedVariables false
set_option linter.unusedSimpArgs false
theorem own : ownKnob Try.prog.godebug = none := by kernel_rfl
set_option maxHeartbeats 4000000 in
set_option maxRecDepth 100000 in
theorem unpacks_w (tg : Bool) (a m : Int) (m0 : 0 ≤ m) (m1 : m < 18446744073709551616) (w : World) :
    Calls Try.prog 4 #[.bool tg, .int .u64 a, .int .u64 m] w fun e' w' => e' = .returned (.bool true) ∧ Kp w w' := by
  go_enter Try.func4, Try.ntmps4
  go_wp2_with (first
    | (go_at_call 17; (with_reducible refine (unpack_w tg a m m0 m1 _).mono ?_); rintro e' w1 ⟨rfl, qk⟩; have K1 := Lib.hid qk; clear qk)
    | (go_at_call 18; (with_reducible refine (refUnpack_w tg a m m0 m1 _).mono ?_); rintro e' w2 ⟨rfl, qk⟩; have K2 := Lib.hid (K1.out.trans qk); clear qk)
    | (go_at_call 14; (with_reducible refine (works_w _).mono ?_); rintro e' w3 ⟨rfl, qk⟩; have K3 := Lib.hid (K2.out.trans qk); clear qk))
  go_ret
  exact ⟨rfl, K3.out⟩
theorem walk (a0 : Bool) (a1 a2 : Int) (w1 : (Lit.int .u64 a1).wf = true) (w2 : (Lit.int .u64 a2).wf = true) (w : World) :
    Calls Try.prog 4 #[.bool a0, .int .u64 a1, .int .u64 a2] w fun e w' => e = .returned (.bool true) ∧ Grown w w' :=
  (unpacks_w a0 a1 a2 (u64_bd w2).1 (u64_bd w2).2 w).mono fun _ _ h => ⟨h.1, h.2.grown⟩
end Go.Proofs.Ytmakfbpflfdkkaa.capencUnpacks
