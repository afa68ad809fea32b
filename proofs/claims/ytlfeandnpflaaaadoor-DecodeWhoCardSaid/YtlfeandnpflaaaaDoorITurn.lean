/-
  Contracts of base's readers: of those that part. No condition.
-/
import Derived.Test.YtlfeandnpflaaaaDoorIRead
namespace Go.Proofs.YtlfeandnpflaaaaDoor
open Go.ChangeShapes Go.WideShapes Go.ChangeAt Go.RowKit
set_option linter.unusedVariables false
set_option linter.unusedSimpArgs false

theorem shift_w (fn : Int) (b : Bool) (hb : shiftB fn = b) (w : World) :
    Calls Tryd.prog 80 #[.int .i64 fn] w fun e w' => e = .returned (.bool b) ∧ w = w' := by
  subst hb
  rcases (show fn = 1 ∨ fn = 5 ∨ fn = 9 ∨ (¬ fn = 1 ∧ ¬ fn = 5 ∧ ¬ fn = 9) by omega) with rfl | rfl | rfl | ⟨h1, h2, h3⟩
  · go_enter Tryd.func80, Tryd.ntmps80
    go_wp2
    go_ret
    exact ⟨rfl, rfl⟩
  · go_enter Tryd.func80, Tryd.ntmps80
    go_wp2
    go_ret
    exact ⟨rfl, rfl⟩
  · go_enter Tryd.func80, Tryd.ntmps80
    go_wp2
    go_ret
    exact ⟨rfl, rfl⟩
  · have t1 : (fn == 1) = false := by simp; omega
    have t2 : (fn == 5) = false := by simp; omega
    have t3 : (fn == 9) = false := by simp; omega
    go_enter Tryd.func80, Tryd.ntmps80
    go_wp2
    go_ret
    exact ⟨ret_bool (by simp [shiftB, *]), rfl⟩
set_option maxHeartbeats 2000000 in
theorem turned_0 (op fn rd r1 r2 imm wid : Int) (wo us : Bool) (t1 : (fn == 0) = true) (w : World) :
    Calls Tryd.prog 81 #[.agg #[.int .i64 op, .int .i64 fn, .int .i64 rd, .int .i64 r1, .int .i64 r2, .int .i64 imm, .int .i64 wid, .bool wo, .bool us, .int .i64 0, .int .u32 0]] w fun e w' => e = .returned (.tuple #[.agg #[.int .i64 op, .int .i64 8, .int .i64 rd, .int .i64 r1, .int .i64 r2, .int .i64 imm, .int .i64 wid, .bool wo, .bool us, .int .i64 0, .int .u32 0], .bool true]) ∧ Kp w w' := by
  go_enter Tryd.func81, Tryd.ntmps81
  go_wp2
  refine bodyPost_ret ?_ rfl ⟨rfl, by (repeat' (first | with_reducible refine Kp.setCell ?_ ?_ _ | with_reducible refine Kp.allocs ?_ _ _ | with_reducible refine Kp.drew ?_ | with_reducible refine Kp.drewN ?_ _)); all_goals first | exact Kp.refl w | (dsimp only; omega)⟩
  simp [results, Tryd.results81, go_sem]
set_option maxHeartbeats 2000000 in
theorem turned_5 (op fn rd r1 r2 imm wid : Int) (wo us : Bool) (t1 : (fn == 0) = false) (t2 : (fn == 5) = true) (w : World) :
    Calls Tryd.prog 81 #[.agg #[.int .i64 op, .int .i64 fn, .int .i64 rd, .int .i64 r1, .int .i64 r2, .int .i64 imm, .int .i64 wid, .bool wo, .bool us, .int .i64 0, .int .u32 0]] w fun e w' => e = .returned (.tuple #[.agg #[.int .i64 op, .int .i64 9, .int .i64 rd, .int .i64 r1, .int .i64 r2, .int .i64 imm, .int .i64 wid, .bool wo, .bool us, .int .i64 0, .int .u32 0], .bool true]) ∧ Kp w w' := by
  go_enter Tryd.func81, Tryd.ntmps81
  go_wp2
  refine bodyPost_ret ?_ rfl ⟨rfl, by (repeat' (first | with_reducible refine Kp.setCell ?_ ?_ _ | with_reducible refine Kp.allocs ?_ _ _ | with_reducible refine Kp.drew ?_ | with_reducible refine Kp.drewN ?_ _)); all_goals first | exact Kp.refl w | (dsimp only; omega)⟩
  simp [results, Tryd.results81, go_sem]
set_option maxHeartbeats 2000000 in
theorem turned_n (op fn rd r1 r2 imm wid : Int) (wo us : Bool) (t1 : (fn == 0) = false) (t2 : (fn == 5) = false) (w : World) :
    Calls Tryd.prog 81 #[.agg #[.int .i64 op, .int .i64 fn, .int .i64 rd, .int .i64 r1, .int .i64 r2, .int .i64 imm, .int .i64 wid, .bool wo, .bool us, .int .i64 0, .int .u32 0]] w fun e w' => e = .returned (.tuple #[.agg #[.int .i64 0, .int .i64 0, .int .i64 0, .int .i64 0, .int .i64 0, .int .i64 0, .int .i64 0, .bool false, .bool false, .int .i64 0, .int .u32 0], .bool false]) ∧ Kp w w' := by
  go_enter Tryd.func81, Tryd.ntmps81
  go_wp2
  refine bodyPost_ret ?_ rfl ⟨rfl, by (repeat' (first | with_reducible refine Kp.setCell ?_ ?_ _ | with_reducible refine Kp.allocs ?_ _ _ | with_reducible refine Kp.drew ?_ | with_reducible refine Kp.drewN ?_ _)); all_goals first | exact Kp.refl w | (dsimp only; omega)⟩
  simp [results, Tryd.results81, go_sem]
end Go.Proofs.YtlfeandnpflaaaaDoor
