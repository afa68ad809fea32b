/-
  Contract of capdec's reader of registers: what is done with two, the first ways. No condition.
  Contract of capdec's reader of registers: what is done with two, the other ways. No condition.
-/
import Derived.Test.YtlfeandnpflaaaaGreatDoorMI
import Derived.WalkMore
namespace Go.Proofs.YtlfeandnpflaaaaGreatDoor
open Go.ChangeShapes Go.WideShapes Go.ChangeAt Go.RowKit
set_option linter.unusedVariables false
set_option linter.unusedSimpArgs false

set_option maxHeartbeats 4000000 in
theorem dreg_8 (x : Int) (x0 : 0 ≤ x) (x1 : x < 4294967296) (h : fl x 33554432 128 = 8) (w : World) :
    Calls Tryz.prog 135 #[.int .u32 x] w fun e w' => RdP e (dsReg x) ∧ Kp w w' := by
  have brd := fl_bd x 128 32 (by omega)
  have bf3 := fl_bd x 4096 8 (by omega)
  have br1 := fl_bd x 32768 32 (by omega)
  have br2 := fl_bd x 1048576 32 (by omega)
  have bf7 := fl_bd x 33554432 128 (by omega)
  go_enter Tryz.func135, Tryz.ntmps135
  go_wp2_with (first | (go_at_call 86; with_reducible refine (drd_w x x0 x1 _).mono ?_; rintro e' w1 ⟨rfl, rfl⟩) | (go_at_call 87; with_reducible refine (drs1_w x x0 x1 _).mono ?_; rintro e' w1 ⟨rfl, rfl⟩) | (go_at_call 90; with_reducible refine (drs2_w x x0 x1 _).mono ?_; rintro e' w1 ⟨rfl, rfl⟩) | (go_at_call 138; with_reducible refine (df7_w x x0 x1 _).mono ?_; rintro e' w1 ⟨rfl, rfl⟩; (try rw [h])))
  go_step3
  go_wp2_with (first | (go_at_call 86; with_reducible refine (drd_w x x0 x1 _).mono ?_; rintro e' w1 ⟨rfl, rfl⟩) | (go_at_call 87; with_reducible refine (drs1_w x x0 x1 _).mono ?_; rintro e' w1 ⟨rfl, rfl⟩) | (go_at_call 90; with_reducible refine (drs2_w x x0 x1 _).mono ?_; rintro e' w1 ⟨rfl, rfl⟩) | (go_at_call 138; with_reducible refine (df7_w x x0 x1 _).mono ?_; rintro e' w1 ⟨rfl, rfl⟩; (try rw [h])))
  go_step3
  go_wp2_with (first | (go_at_call 86; with_reducible refine (drd_w x x0 x1 _).mono ?_; rintro e' w1 ⟨rfl, rfl⟩) | (go_at_call 87; with_reducible refine (drs1_w x x0 x1 _).mono ?_; rintro e' w1 ⟨rfl, rfl⟩) | (go_at_call 90; with_reducible refine (drs2_w x x0 x1 _).mono ?_; rintro e' w1 ⟨rfl, rfl⟩) | (go_at_call 138; with_reducible refine (df7_w x x0 x1 _).mono ?_; rintro e' w1 ⟨rfl, rfl⟩; (try rw [h])))
  try rw [Exit.noGoto_ret]
  refine bodyPost_ret (v := .tuple #[Ins.v ⟨24, 8, (fl x 128 32), (fl x 32768 32), (fl x 1048576 32), 0, 0, false, false⟩ 0 0, .bool (true)]) (by simp [results, Tryz.results135, go_sem, Ins.v, *]) rfl ⟨RdP.mk ⟨24, 8, (fl x 128 32), (fl x 32768 32), (fl x 1048576 32), 0, 0, false, false⟩ (true) rfl (by simp [dsReg, h, twoB]), by (repeat' (first | with_reducible refine Kp.setCell ?_ ?_ _ | with_reducible refine Kp.allocs ?_ _ _ | with_reducible refine Kp.drew ?_ | with_reducible refine Kp.drewN ?_ _)); all_goals first | exact Kp.refl w | (dsimp only; omega)⟩
set_option maxHeartbeats 4000000 in
theorem dreg_9 (x : Int) (x0 : 0 ≤ x) (x1 : x < 4294967296) (h : fl x 33554432 128 = 9) (w : World) :
    Calls Tryz.prog 135 #[.int .u32 x] w fun e w' => RdP e (dsReg x) ∧ Kp w w' := by
  have brd := fl_bd x 128 32 (by omega)
  have bf3 := fl_bd x 4096 8 (by omega)
  have br1 := fl_bd x 32768 32 (by omega)
  have br2 := fl_bd x 1048576 32 (by omega)
  have bf7 := fl_bd x 33554432 128 (by omega)
  go_enter Tryz.func135, Tryz.ntmps135
  go_wp2_with (first | (go_at_call 86; with_reducible refine (drd_w x x0 x1 _).mono ?_; rintro e' w1 ⟨rfl, rfl⟩) | (go_at_call 87; with_reducible refine (drs1_w x x0 x1 _).mono ?_; rintro e' w1 ⟨rfl, rfl⟩) | (go_at_call 90; with_reducible refine (drs2_w x x0 x1 _).mono ?_; rintro e' w1 ⟨rfl, rfl⟩) | (go_at_call 138; with_reducible refine (df7_w x x0 x1 _).mono ?_; rintro e' w1 ⟨rfl, rfl⟩; (try rw [h])))
  go_step3
  go_wp2_with (first | (go_at_call 86; with_reducible refine (drd_w x x0 x1 _).mono ?_; rintro e' w1 ⟨rfl, rfl⟩) | (go_at_call 87; with_reducible refine (drs1_w x x0 x1 _).mono ?_; rintro e' w1 ⟨rfl, rfl⟩) | (go_at_call 90; with_reducible refine (drs2_w x x0 x1 _).mono ?_; rintro e' w1 ⟨rfl, rfl⟩) | (go_at_call 138; with_reducible refine (df7_w x x0 x1 _).mono ?_; rintro e' w1 ⟨rfl, rfl⟩; (try rw [h])))
  go_step3
  go_wp2_with (first | (go_at_call 86; with_reducible refine (drd_w x x0 x1 _).mono ?_; rintro e' w1 ⟨rfl, rfl⟩) | (go_at_call 87; with_reducible refine (drs1_w x x0 x1 _).mono ?_; rintro e' w1 ⟨rfl, rfl⟩) | (go_at_call 90; with_reducible refine (drs2_w x x0 x1 _).mono ?_; rintro e' w1 ⟨rfl, rfl⟩) | (go_at_call 138; with_reducible refine (df7_w x x0 x1 _).mono ?_; rintro e' w1 ⟨rfl, rfl⟩; (try rw [h])))
  try rw [Exit.noGoto_ret]
  refine bodyPost_ret (v := .tuple #[Ins.v ⟨24, 9, (fl x 128 32), (fl x 32768 32), (fl x 1048576 32), 0, 0, false, false⟩ 0 0, .bool (true)]) (by simp [results, Tryz.results135, go_sem, Ins.v, *]) rfl ⟨RdP.mk ⟨24, 9, (fl x 128 32), (fl x 32768 32), (fl x 1048576 32), 0, 0, false, false⟩ (true) rfl (by simp [dsReg, h, twoB]), by (repeat' (first | with_reducible refine Kp.setCell ?_ ?_ _ | with_reducible refine Kp.allocs ?_ _ _ | with_reducible refine Kp.drew ?_ | with_reducible refine Kp.drewN ?_ _)); all_goals first | exact Kp.refl w | (dsimp only; omega)⟩
set_option maxHeartbeats 4000000 in
theorem dreg_11 (x : Int) (x0 : 0 ≤ x) (x1 : x < 4294967296) (h : fl x 33554432 128 = 11) (w : World) :
    Calls Tryz.prog 135 #[.int .u32 x] w fun e w' => RdP e (dsReg x) ∧ Kp w w' := by
  have brd := fl_bd x 128 32 (by omega)
  have bf3 := fl_bd x 4096 8 (by omega)
  have br1 := fl_bd x 32768 32 (by omega)
  have br2 := fl_bd x 1048576 32 (by omega)
  have bf7 := fl_bd x 33554432 128 (by omega)
  go_enter Tryz.func135, Tryz.ntmps135
  go_wp2_with (first | (go_at_call 86; with_reducible refine (drd_w x x0 x1 _).mono ?_; rintro e' w1 ⟨rfl, rfl⟩) | (go_at_call 87; with_reducible refine (drs1_w x x0 x1 _).mono ?_; rintro e' w1 ⟨rfl, rfl⟩) | (go_at_call 90; with_reducible refine (drs2_w x x0 x1 _).mono ?_; rintro e' w1 ⟨rfl, rfl⟩) | (go_at_call 138; with_reducible refine (df7_w x x0 x1 _).mono ?_; rintro e' w1 ⟨rfl, rfl⟩; (try rw [h])))
  go_step3
  go_wp2_with (first | (go_at_call 86; with_reducible refine (drd_w x x0 x1 _).mono ?_; rintro e' w1 ⟨rfl, rfl⟩) | (go_at_call 87; with_reducible refine (drs1_w x x0 x1 _).mono ?_; rintro e' w1 ⟨rfl, rfl⟩) | (go_at_call 90; with_reducible refine (drs2_w x x0 x1 _).mono ?_; rintro e' w1 ⟨rfl, rfl⟩) | (go_at_call 138; with_reducible refine (df7_w x x0 x1 _).mono ?_; rintro e' w1 ⟨rfl, rfl⟩; (try rw [h])))
  go_step3
  go_wp2_with (first | (go_at_call 86; with_reducible refine (drd_w x x0 x1 _).mono ?_; rintro e' w1 ⟨rfl, rfl⟩) | (go_at_call 87; with_reducible refine (drs1_w x x0 x1 _).mono ?_; rintro e' w1 ⟨rfl, rfl⟩) | (go_at_call 90; with_reducible refine (drs2_w x x0 x1 _).mono ?_; rintro e' w1 ⟨rfl, rfl⟩) | (go_at_call 138; with_reducible refine (df7_w x x0 x1 _).mono ?_; rintro e' w1 ⟨rfl, rfl⟩; (try rw [h])))
  try rw [Exit.noGoto_ret]
  refine bodyPost_ret (v := .tuple #[Ins.v ⟨24, 11, (fl x 128 32), (fl x 32768 32), (fl x 1048576 32), 0, 0, false, false⟩ 0 0, .bool (true)]) (by simp [results, Tryz.results135, go_sem, Ins.v, *]) rfl ⟨RdP.mk ⟨24, 11, (fl x 128 32), (fl x 32768 32), (fl x 1048576 32), 0, 0, false, false⟩ (true) rfl (by simp [dsReg, h, twoB]), by (repeat' (first | with_reducible refine Kp.setCell ?_ ?_ _ | with_reducible refine Kp.allocs ?_ _ _ | with_reducible refine Kp.drew ?_ | with_reducible refine Kp.drewN ?_ _)); all_goals first | exact Kp.refl w | (dsimp only; omega)⟩
set_option maxHeartbeats 4000000 in
theorem dreg_12 (x : Int) (x0 : 0 ≤ x) (x1 : x < 4294967296) (h : fl x 33554432 128 = 12) (w : World) :
    Calls Tryz.prog 135 #[.int .u32 x] w fun e w' => RdP e (dsReg x) ∧ Kp w w' := by
  have brd := fl_bd x 128 32 (by omega)
  have bf3 := fl_bd x 4096 8 (by omega)
  have br1 := fl_bd x 32768 32 (by omega)
  have br2 := fl_bd x 1048576 32 (by omega)
  have bf7 := fl_bd x 33554432 128 (by omega)
  go_enter Tryz.func135, Tryz.ntmps135
  go_wp2_with (first | (go_at_call 86; with_reducible refine (drd_w x x0 x1 _).mono ?_; rintro e' w1 ⟨rfl, rfl⟩) | (go_at_call 87; with_reducible refine (drs1_w x x0 x1 _).mono ?_; rintro e' w1 ⟨rfl, rfl⟩) | (go_at_call 90; with_reducible refine (drs2_w x x0 x1 _).mono ?_; rintro e' w1 ⟨rfl, rfl⟩) | (go_at_call 138; with_reducible refine (df7_w x x0 x1 _).mono ?_; rintro e' w1 ⟨rfl, rfl⟩; (try rw [h])))
  go_step3
  go_wp2_with (first | (go_at_call 86; with_reducible refine (drd_w x x0 x1 _).mono ?_; rintro e' w1 ⟨rfl, rfl⟩) | (go_at_call 87; with_reducible refine (drs1_w x x0 x1 _).mono ?_; rintro e' w1 ⟨rfl, rfl⟩) | (go_at_call 90; with_reducible refine (drs2_w x x0 x1 _).mono ?_; rintro e' w1 ⟨rfl, rfl⟩) | (go_at_call 138; with_reducible refine (df7_w x x0 x1 _).mono ?_; rintro e' w1 ⟨rfl, rfl⟩; (try rw [h])))
  go_step3
  go_wp2_with (first | (go_at_call 86; with_reducible refine (drd_w x x0 x1 _).mono ?_; rintro e' w1 ⟨rfl, rfl⟩) | (go_at_call 87; with_reducible refine (drs1_w x x0 x1 _).mono ?_; rintro e' w1 ⟨rfl, rfl⟩) | (go_at_call 90; with_reducible refine (drs2_w x x0 x1 _).mono ?_; rintro e' w1 ⟨rfl, rfl⟩) | (go_at_call 138; with_reducible refine (df7_w x x0 x1 _).mono ?_; rintro e' w1 ⟨rfl, rfl⟩; (try rw [h])))
  try rw [Exit.noGoto_ret]
  refine bodyPost_ret (v := .tuple #[Ins.v ⟨24, 12, (fl x 128 32), (fl x 32768 32), (fl x 1048576 32), 0, 0, false, false⟩ 0 0, .bool (true)]) (by simp [results, Tryz.results135, go_sem, Ins.v, *]) rfl ⟨RdP.mk ⟨24, 12, (fl x 128 32), (fl x 32768 32), (fl x 1048576 32), 0, 0, false, false⟩ (true) rfl (by simp [dsReg, h, twoB]), by (repeat' (first | with_reducible refine Kp.setCell ?_ ?_ _ | with_reducible refine Kp.allocs ?_ _ _ | with_reducible refine Kp.drew ?_ | with_reducible refine Kp.drewN ?_ _)); all_goals first | exact Kp.refl w | (dsimp only; omega)⟩
set_option maxHeartbeats 4000000 in
theorem dreg_13 (x : Int) (x0 : 0 ≤ x) (x1 : x < 4294967296) (h : fl x 33554432 128 = 13) (w : World) :
    Calls Tryz.prog 135 #[.int .u32 x] w fun e w' => RdP e (dsReg x) ∧ Kp w w' := by
  have brd := fl_bd x 128 32 (by omega)
  have bf3 := fl_bd x 4096 8 (by omega)
  have br1 := fl_bd x 32768 32 (by omega)
  have br2 := fl_bd x 1048576 32 (by omega)
  have bf7 := fl_bd x 33554432 128 (by omega)
  go_enter Tryz.func135, Tryz.ntmps135
  go_wp2_with (first | (go_at_call 86; with_reducible refine (drd_w x x0 x1 _).mono ?_; rintro e' w1 ⟨rfl, rfl⟩) | (go_at_call 87; with_reducible refine (drs1_w x x0 x1 _).mono ?_; rintro e' w1 ⟨rfl, rfl⟩) | (go_at_call 90; with_reducible refine (drs2_w x x0 x1 _).mono ?_; rintro e' w1 ⟨rfl, rfl⟩) | (go_at_call 138; with_reducible refine (df7_w x x0 x1 _).mono ?_; rintro e' w1 ⟨rfl, rfl⟩; (try rw [h])))
  go_step3
  go_wp2_with (first | (go_at_call 86; with_reducible refine (drd_w x x0 x1 _).mono ?_; rintro e' w1 ⟨rfl, rfl⟩) | (go_at_call 87; with_reducible refine (drs1_w x x0 x1 _).mono ?_; rintro e' w1 ⟨rfl, rfl⟩) | (go_at_call 90; with_reducible refine (drs2_w x x0 x1 _).mono ?_; rintro e' w1 ⟨rfl, rfl⟩) | (go_at_call 138; with_reducible refine (df7_w x x0 x1 _).mono ?_; rintro e' w1 ⟨rfl, rfl⟩; (try rw [h])))
  go_step3
  go_wp2_with (first | (go_at_call 86; with_reducible refine (drd_w x x0 x1 _).mono ?_; rintro e' w1 ⟨rfl, rfl⟩) | (go_at_call 87; with_reducible refine (drs1_w x x0 x1 _).mono ?_; rintro e' w1 ⟨rfl, rfl⟩) | (go_at_call 90; with_reducible refine (drs2_w x x0 x1 _).mono ?_; rintro e' w1 ⟨rfl, rfl⟩) | (go_at_call 138; with_reducible refine (df7_w x x0 x1 _).mono ?_; rintro e' w1 ⟨rfl, rfl⟩; (try rw [h])))
  try rw [Exit.noGoto_ret]
  refine bodyPost_ret (v := .tuple #[Ins.v ⟨24, 13, (fl x 128 32), (fl x 32768 32), (fl x 1048576 32), 0, 0, false, false⟩ 0 0, .bool (true)]) (by simp [results, Tryz.results135, go_sem, Ins.v, *]) rfl ⟨RdP.mk ⟨24, 13, (fl x 128 32), (fl x 32768 32), (fl x 1048576 32), 0, 0, false, false⟩ (true) rfl (by simp [dsReg, h, twoB]), by (repeat' (first | with_reducible refine Kp.setCell ?_ ?_ _ | with_reducible refine Kp.allocs ?_ _ _ | with_reducible refine Kp.drew ?_ | with_reducible refine Kp.drewN ?_ _)); all_goals first | exact Kp.refl w | (dsimp only; omega)⟩
set_option maxHeartbeats 4000000 in
theorem dreg_14 (x : Int) (x0 : 0 ≤ x) (x1 : x < 4294967296) (h : fl x 33554432 128 = 14) (w : World) :
    Calls Tryz.prog 135 #[.int .u32 x] w fun e w' => RdP e (dsReg x) ∧ Kp w w' := by
  have brd := fl_bd x 128 32 (by omega)
  have bf3 := fl_bd x 4096 8 (by omega)
  have br1 := fl_bd x 32768 32 (by omega)
  have br2 := fl_bd x 1048576 32 (by omega)
  have bf7 := fl_bd x 33554432 128 (by omega)
  go_enter Tryz.func135, Tryz.ntmps135
  go_wp2_with (first | (go_at_call 86; with_reducible refine (drd_w x x0 x1 _).mono ?_; rintro e' w1 ⟨rfl, rfl⟩) | (go_at_call 87; with_reducible refine (drs1_w x x0 x1 _).mono ?_; rintro e' w1 ⟨rfl, rfl⟩) | (go_at_call 90; with_reducible refine (drs2_w x x0 x1 _).mono ?_; rintro e' w1 ⟨rfl, rfl⟩) | (go_at_call 138; with_reducible refine (df7_w x x0 x1 _).mono ?_; rintro e' w1 ⟨rfl, rfl⟩; (try rw [h])))
  go_step3
  go_wp2_with (first | (go_at_call 86; with_reducible refine (drd_w x x0 x1 _).mono ?_; rintro e' w1 ⟨rfl, rfl⟩) | (go_at_call 87; with_reducible refine (drs1_w x x0 x1 _).mono ?_; rintro e' w1 ⟨rfl, rfl⟩) | (go_at_call 90; with_reducible refine (drs2_w x x0 x1 _).mono ?_; rintro e' w1 ⟨rfl, rfl⟩) | (go_at_call 138; with_reducible refine (df7_w x x0 x1 _).mono ?_; rintro e' w1 ⟨rfl, rfl⟩; (try rw [h])))
  go_step3
  go_wp2_with (first | (go_at_call 86; with_reducible refine (drd_w x x0 x1 _).mono ?_; rintro e' w1 ⟨rfl, rfl⟩) | (go_at_call 87; with_reducible refine (drs1_w x x0 x1 _).mono ?_; rintro e' w1 ⟨rfl, rfl⟩) | (go_at_call 90; with_reducible refine (drs2_w x x0 x1 _).mono ?_; rintro e' w1 ⟨rfl, rfl⟩) | (go_at_call 138; with_reducible refine (df7_w x x0 x1 _).mono ?_; rintro e' w1 ⟨rfl, rfl⟩; (try rw [h])))
  try rw [Exit.noGoto_ret]
  refine bodyPost_ret (v := .tuple #[Ins.v ⟨24, 14, (fl x 128 32), (fl x 32768 32), (fl x 1048576 32), 0, 0, false, false⟩ 0 0, .bool (true)]) (by simp [results, Tryz.results135, go_sem, Ins.v, *]) rfl ⟨RdP.mk ⟨24, 14, (fl x 128 32), (fl x 32768 32), (fl x 1048576 32), 0, 0, false, false⟩ (true) rfl (by simp [dsReg, h, twoB]), by (repeat' (first | with_reducible refine Kp.setCell ?_ ?_ _ | with_reducible refine Kp.allocs ?_ _ _ | with_reducible refine Kp.drew ?_ | with_reducible refine Kp.drewN ?_ _)); all_goals first | exact Kp.refl w | (dsimp only; omega)⟩
set_option maxHeartbeats 4000000 in
theorem dreg_15 (x : Int) (x0 : 0 ≤ x) (x1 : x < 4294967296) (h : fl x 33554432 128 = 15) (w : World) :
    Calls Tryz.prog 135 #[.int .u32 x] w fun e w' => RdP e (dsReg x) ∧ Kp w w' := by
  have brd := fl_bd x 128 32 (by omega)
  have bf3 := fl_bd x 4096 8 (by omega)
  have br1 := fl_bd x 32768 32 (by omega)
  have br2 := fl_bd x 1048576 32 (by omega)
  have bf7 := fl_bd x 33554432 128 (by omega)
  go_enter Tryz.func135, Tryz.ntmps135
  go_wp2_with (first | (go_at_call 86; with_reducible refine (drd_w x x0 x1 _).mono ?_; rintro e' w1 ⟨rfl, rfl⟩) | (go_at_call 87; with_reducible refine (drs1_w x x0 x1 _).mono ?_; rintro e' w1 ⟨rfl, rfl⟩) | (go_at_call 90; with_reducible refine (drs2_w x x0 x1 _).mono ?_; rintro e' w1 ⟨rfl, rfl⟩) | (go_at_call 138; with_reducible refine (df7_w x x0 x1 _).mono ?_; rintro e' w1 ⟨rfl, rfl⟩; (try rw [h])))
  go_step3
  go_wp2_with (first | (go_at_call 86; with_reducible refine (drd_w x x0 x1 _).mono ?_; rintro e' w1 ⟨rfl, rfl⟩) | (go_at_call 87; with_reducible refine (drs1_w x x0 x1 _).mono ?_; rintro e' w1 ⟨rfl, rfl⟩) | (go_at_call 90; with_reducible refine (drs2_w x x0 x1 _).mono ?_; rintro e' w1 ⟨rfl, rfl⟩) | (go_at_call 138; with_reducible refine (df7_w x x0 x1 _).mono ?_; rintro e' w1 ⟨rfl, rfl⟩; (try rw [h])))
  go_step3
  go_wp2_with (first | (go_at_call 86; with_reducible refine (drd_w x x0 x1 _).mono ?_; rintro e' w1 ⟨rfl, rfl⟩) | (go_at_call 87; with_reducible refine (drs1_w x x0 x1 _).mono ?_; rintro e' w1 ⟨rfl, rfl⟩) | (go_at_call 90; with_reducible refine (drs2_w x x0 x1 _).mono ?_; rintro e' w1 ⟨rfl, rfl⟩) | (go_at_call 138; with_reducible refine (df7_w x x0 x1 _).mono ?_; rintro e' w1 ⟨rfl, rfl⟩; (try rw [h])))
  try rw [Exit.noGoto_ret]
  refine bodyPost_ret (v := .tuple #[Ins.v ⟨24, 15, (fl x 128 32), (fl x 32768 32), (fl x 1048576 32), 0, 0, false, false⟩ 0 0, .bool (true)]) (by simp [results, Tryz.results135, go_sem, Ins.v, *]) rfl ⟨RdP.mk ⟨24, 15, (fl x 128 32), (fl x 32768 32), (fl x 1048576 32), 0, 0, false, false⟩ (true) rfl (by simp [dsReg, h, twoB]), by (repeat' (first | with_reducible refine Kp.setCell ?_ ?_ _ | with_reducible refine Kp.allocs ?_ _ _ | with_reducible refine Kp.drew ?_ | with_reducible refine Kp.drewN ?_ _)); all_goals first | exact Kp.refl w | (dsimp only; omega)⟩
set_option maxHeartbeats 4000000 in
theorem dreg_16 (x : Int) (x0 : 0 ≤ x) (x1 : x < 4294967296) (h : fl x 33554432 128 = 16) (w : World) :
    Calls Tryz.prog 135 #[.int .u32 x] w fun e w' => RdP e (dsReg x) ∧ Kp w w' := by
  have brd := fl_bd x 128 32 (by omega)
  have bf3 := fl_bd x 4096 8 (by omega)
  have br1 := fl_bd x 32768 32 (by omega)
  have br2 := fl_bd x 1048576 32 (by omega)
  have bf7 := fl_bd x 33554432 128 (by omega)
  go_enter Tryz.func135, Tryz.ntmps135
  go_wp2_with (first | (go_at_call 86; with_reducible refine (drd_w x x0 x1 _).mono ?_; rintro e' w1 ⟨rfl, rfl⟩) | (go_at_call 87; with_reducible refine (drs1_w x x0 x1 _).mono ?_; rintro e' w1 ⟨rfl, rfl⟩) | (go_at_call 90; with_reducible refine (drs2_w x x0 x1 _).mono ?_; rintro e' w1 ⟨rfl, rfl⟩) | (go_at_call 138; with_reducible refine (df7_w x x0 x1 _).mono ?_; rintro e' w1 ⟨rfl, rfl⟩; (try rw [h])))
  go_step3
  go_wp2_with (first | (go_at_call 86; with_reducible refine (drd_w x x0 x1 _).mono ?_; rintro e' w1 ⟨rfl, rfl⟩) | (go_at_call 87; with_reducible refine (drs1_w x x0 x1 _).mono ?_; rintro e' w1 ⟨rfl, rfl⟩) | (go_at_call 90; with_reducible refine (drs2_w x x0 x1 _).mono ?_; rintro e' w1 ⟨rfl, rfl⟩) | (go_at_call 138; with_reducible refine (df7_w x x0 x1 _).mono ?_; rintro e' w1 ⟨rfl, rfl⟩; (try rw [h])))
  go_step3
  go_wp2_with (first | (go_at_call 86; with_reducible refine (drd_w x x0 x1 _).mono ?_; rintro e' w1 ⟨rfl, rfl⟩) | (go_at_call 87; with_reducible refine (drs1_w x x0 x1 _).mono ?_; rintro e' w1 ⟨rfl, rfl⟩) | (go_at_call 90; with_reducible refine (drs2_w x x0 x1 _).mono ?_; rintro e' w1 ⟨rfl, rfl⟩) | (go_at_call 138; with_reducible refine (df7_w x x0 x1 _).mono ?_; rintro e' w1 ⟨rfl, rfl⟩; (try rw [h])))
  try rw [Exit.noGoto_ret]
  refine bodyPost_ret (v := .tuple #[Ins.v ⟨24, 16, (fl x 128 32), (fl x 32768 32), (fl x 1048576 32), 0, 0, false, false⟩ 0 0, .bool (true)]) (by simp [results, Tryz.results135, go_sem, Ins.v, *]) rfl ⟨RdP.mk ⟨24, 16, (fl x 128 32), (fl x 32768 32), (fl x 1048576 32), 0, 0, false, false⟩ (true) rfl (by simp [dsReg, h, twoB]), by (repeat' (first | with_reducible refine Kp.setCell ?_ ?_ _ | with_reducible refine Kp.allocs ?_ _ _ | with_reducible refine Kp.drew ?_ | with_reducible refine Kp.drewN ?_ _)); all_goals first | exact Kp.refl w | (dsimp only; omega)⟩
end Go.Proofs.YtlfeandnpflaaaaGreatDoor
namespace Go.Proofs.YtlfeandnpflaaaaGreatDoor
open Go.ChangeShapes Go.WideShapes Go.ChangeAt Go.RowKit
set_option linter.unusedVariables false
set_option linter.unusedSimpArgs false

set_option maxHeartbeats 4000000 in
theorem dreg_17 (x : Int) (x0 : 0 ≤ x) (x1 : x < 4294967296) (h : fl x 33554432 128 = 17) (w : World) :
    Calls Tryz.prog 135 #[.int .u32 x] w fun e w' => RdP e (dsReg x) ∧ Kp w w' := by
  have brd := fl_bd x 128 32 (by omega)
  have bf3 := fl_bd x 4096 8 (by omega)
  have br1 := fl_bd x 32768 32 (by omega)
  have br2 := fl_bd x 1048576 32 (by omega)
  have bf7 := fl_bd x 33554432 128 (by omega)
  go_enter Tryz.func135, Tryz.ntmps135
  go_wp2_with (first | (go_at_call 86; with_reducible refine (drd_w x x0 x1 _).mono ?_; rintro e' w1 ⟨rfl, rfl⟩) | (go_at_call 87; with_reducible refine (drs1_w x x0 x1 _).mono ?_; rintro e' w1 ⟨rfl, rfl⟩) | (go_at_call 90; with_reducible refine (drs2_w x x0 x1 _).mono ?_; rintro e' w1 ⟨rfl, rfl⟩) | (go_at_call 138; with_reducible refine (df7_w x x0 x1 _).mono ?_; rintro e' w1 ⟨rfl, rfl⟩; (try rw [h])))
  go_step3
  go_wp2_with (first | (go_at_call 86; with_reducible refine (drd_w x x0 x1 _).mono ?_; rintro e' w1 ⟨rfl, rfl⟩) | (go_at_call 87; with_reducible refine (drs1_w x x0 x1 _).mono ?_; rintro e' w1 ⟨rfl, rfl⟩) | (go_at_call 90; with_reducible refine (drs2_w x x0 x1 _).mono ?_; rintro e' w1 ⟨rfl, rfl⟩) | (go_at_call 138; with_reducible refine (df7_w x x0 x1 _).mono ?_; rintro e' w1 ⟨rfl, rfl⟩; (try rw [h])))
  go_step3
  go_wp2_with (first | (go_at_call 86; with_reducible refine (drd_w x x0 x1 _).mono ?_; rintro e' w1 ⟨rfl, rfl⟩) | (go_at_call 87; with_reducible refine (drs1_w x x0 x1 _).mono ?_; rintro e' w1 ⟨rfl, rfl⟩) | (go_at_call 90; with_reducible refine (drs2_w x x0 x1 _).mono ?_; rintro e' w1 ⟨rfl, rfl⟩) | (go_at_call 138; with_reducible refine (df7_w x x0 x1 _).mono ?_; rintro e' w1 ⟨rfl, rfl⟩; (try rw [h])))
  try rw [Exit.noGoto_ret]
  refine bodyPost_ret (v := .tuple #[Ins.v ⟨24, 17, (fl x 128 32), (fl x 32768 32), (fl x 1048576 32), 0, 0, false, false⟩ 0 0, .bool (true)]) (by simp [results, Tryz.results135, go_sem, Ins.v, *]) rfl ⟨RdP.mk ⟨24, 17, (fl x 128 32), (fl x 32768 32), (fl x 1048576 32), 0, 0, false, false⟩ (true) rfl (by simp [dsReg, h, twoB]), by (repeat' (first | with_reducible refine Kp.setCell ?_ ?_ _ | with_reducible refine Kp.allocs ?_ _ _ | with_reducible refine Kp.drew ?_ | with_reducible refine Kp.drewN ?_ _)); all_goals first | exact Kp.refl w | (dsimp only; omega)⟩
set_option maxHeartbeats 4000000 in
theorem dreg_18 (x : Int) (x0 : 0 ≤ x) (x1 : x < 4294967296) (h : fl x 33554432 128 = 18) (w : World) :
    Calls Tryz.prog 135 #[.int .u32 x] w fun e w' => RdP e (dsReg x) ∧ Kp w w' := by
  have brd := fl_bd x 128 32 (by omega)
  have bf3 := fl_bd x 4096 8 (by omega)
  have br1 := fl_bd x 32768 32 (by omega)
  have br2 := fl_bd x 1048576 32 (by omega)
  have bf7 := fl_bd x 33554432 128 (by omega)
  go_enter Tryz.func135, Tryz.ntmps135
  go_wp2_with (first | (go_at_call 86; with_reducible refine (drd_w x x0 x1 _).mono ?_; rintro e' w1 ⟨rfl, rfl⟩) | (go_at_call 87; with_reducible refine (drs1_w x x0 x1 _).mono ?_; rintro e' w1 ⟨rfl, rfl⟩) | (go_at_call 90; with_reducible refine (drs2_w x x0 x1 _).mono ?_; rintro e' w1 ⟨rfl, rfl⟩) | (go_at_call 138; with_reducible refine (df7_w x x0 x1 _).mono ?_; rintro e' w1 ⟨rfl, rfl⟩; (try rw [h])))
  go_step3
  go_wp2_with (first | (go_at_call 86; with_reducible refine (drd_w x x0 x1 _).mono ?_; rintro e' w1 ⟨rfl, rfl⟩) | (go_at_call 87; with_reducible refine (drs1_w x x0 x1 _).mono ?_; rintro e' w1 ⟨rfl, rfl⟩) | (go_at_call 90; with_reducible refine (drs2_w x x0 x1 _).mono ?_; rintro e' w1 ⟨rfl, rfl⟩) | (go_at_call 138; with_reducible refine (df7_w x x0 x1 _).mono ?_; rintro e' w1 ⟨rfl, rfl⟩; (try rw [h])))
  go_step3
  go_wp2_with (first | (go_at_call 86; with_reducible refine (drd_w x x0 x1 _).mono ?_; rintro e' w1 ⟨rfl, rfl⟩) | (go_at_call 87; with_reducible refine (drs1_w x x0 x1 _).mono ?_; rintro e' w1 ⟨rfl, rfl⟩) | (go_at_call 90; with_reducible refine (drs2_w x x0 x1 _).mono ?_; rintro e' w1 ⟨rfl, rfl⟩) | (go_at_call 138; with_reducible refine (df7_w x x0 x1 _).mono ?_; rintro e' w1 ⟨rfl, rfl⟩; (try rw [h])))
  try rw [Exit.noGoto_ret]
  refine bodyPost_ret (v := .tuple #[Ins.v ⟨24, 18, (fl x 128 32), (fl x 32768 32), (fl x 1048576 32), 0, 0, false, false⟩ 0 0, .bool (true)]) (by simp [results, Tryz.results135, go_sem, Ins.v, *]) rfl ⟨RdP.mk ⟨24, 18, (fl x 128 32), (fl x 32768 32), (fl x 1048576 32), 0, 0, false, false⟩ (true) rfl (by simp [dsReg, h, twoB]), by (repeat' (first | with_reducible refine Kp.setCell ?_ ?_ _ | with_reducible refine Kp.allocs ?_ _ _ | with_reducible refine Kp.drew ?_ | with_reducible refine Kp.drewN ?_ _)); all_goals first | exact Kp.refl w | (dsimp only; omega)⟩
set_option maxHeartbeats 4000000 in
theorem dreg_19 (x : Int) (x0 : 0 ≤ x) (x1 : x < 4294967296) (h : fl x 33554432 128 = 19) (w : World) :
    Calls Tryz.prog 135 #[.int .u32 x] w fun e w' => RdP e (dsReg x) ∧ Kp w w' := by
  have brd := fl_bd x 128 32 (by omega)
  have bf3 := fl_bd x 4096 8 (by omega)
  have br1 := fl_bd x 32768 32 (by omega)
  have br2 := fl_bd x 1048576 32 (by omega)
  have bf7 := fl_bd x 33554432 128 (by omega)
  go_enter Tryz.func135, Tryz.ntmps135
  go_wp2_with (first | (go_at_call 86; with_reducible refine (drd_w x x0 x1 _).mono ?_; rintro e' w1 ⟨rfl, rfl⟩) | (go_at_call 87; with_reducible refine (drs1_w x x0 x1 _).mono ?_; rintro e' w1 ⟨rfl, rfl⟩) | (go_at_call 90; with_reducible refine (drs2_w x x0 x1 _).mono ?_; rintro e' w1 ⟨rfl, rfl⟩) | (go_at_call 138; with_reducible refine (df7_w x x0 x1 _).mono ?_; rintro e' w1 ⟨rfl, rfl⟩; (try rw [h])))
  go_step3
  go_wp2_with (first | (go_at_call 86; with_reducible refine (drd_w x x0 x1 _).mono ?_; rintro e' w1 ⟨rfl, rfl⟩) | (go_at_call 87; with_reducible refine (drs1_w x x0 x1 _).mono ?_; rintro e' w1 ⟨rfl, rfl⟩) | (go_at_call 90; with_reducible refine (drs2_w x x0 x1 _).mono ?_; rintro e' w1 ⟨rfl, rfl⟩) | (go_at_call 138; with_reducible refine (df7_w x x0 x1 _).mono ?_; rintro e' w1 ⟨rfl, rfl⟩; (try rw [h])))
  go_step3
  go_wp2_with (first | (go_at_call 86; with_reducible refine (drd_w x x0 x1 _).mono ?_; rintro e' w1 ⟨rfl, rfl⟩) | (go_at_call 87; with_reducible refine (drs1_w x x0 x1 _).mono ?_; rintro e' w1 ⟨rfl, rfl⟩) | (go_at_call 90; with_reducible refine (drs2_w x x0 x1 _).mono ?_; rintro e' w1 ⟨rfl, rfl⟩) | (go_at_call 138; with_reducible refine (df7_w x x0 x1 _).mono ?_; rintro e' w1 ⟨rfl, rfl⟩; (try rw [h])))
  try rw [Exit.noGoto_ret]
  refine bodyPost_ret (v := .tuple #[Ins.v ⟨24, 19, (fl x 128 32), (fl x 32768 32), (fl x 1048576 32), 0, 0, false, false⟩ 0 0, .bool (true)]) (by simp [results, Tryz.results135, go_sem, Ins.v, *]) rfl ⟨RdP.mk ⟨24, 19, (fl x 128 32), (fl x 32768 32), (fl x 1048576 32), 0, 0, false, false⟩ (true) rfl (by simp [dsReg, h, twoB]), by (repeat' (first | with_reducible refine Kp.setCell ?_ ?_ _ | with_reducible refine Kp.allocs ?_ _ _ | with_reducible refine Kp.drew ?_ | with_reducible refine Kp.drewN ?_ _)); all_goals first | exact Kp.refl w | (dsimp only; omega)⟩
set_option maxHeartbeats 4000000 in
theorem dreg_20 (x : Int) (x0 : 0 ≤ x) (x1 : x < 4294967296) (h : fl x 33554432 128 = 20) (w : World) :
    Calls Tryz.prog 135 #[.int .u32 x] w fun e w' => RdP e (dsReg x) ∧ Kp w w' := by
  have brd := fl_bd x 128 32 (by omega)
  have bf3 := fl_bd x 4096 8 (by omega)
  have br1 := fl_bd x 32768 32 (by omega)
  have br2 := fl_bd x 1048576 32 (by omega)
  have bf7 := fl_bd x 33554432 128 (by omega)
  go_enter Tryz.func135, Tryz.ntmps135
  go_wp2_with (first | (go_at_call 86; with_reducible refine (drd_w x x0 x1 _).mono ?_; rintro e' w1 ⟨rfl, rfl⟩) | (go_at_call 87; with_reducible refine (drs1_w x x0 x1 _).mono ?_; rintro e' w1 ⟨rfl, rfl⟩) | (go_at_call 90; with_reducible refine (drs2_w x x0 x1 _).mono ?_; rintro e' w1 ⟨rfl, rfl⟩) | (go_at_call 138; with_reducible refine (df7_w x x0 x1 _).mono ?_; rintro e' w1 ⟨rfl, rfl⟩; (try rw [h])))
  go_step3
  go_wp2_with (first | (go_at_call 86; with_reducible refine (drd_w x x0 x1 _).mono ?_; rintro e' w1 ⟨rfl, rfl⟩) | (go_at_call 87; with_reducible refine (drs1_w x x0 x1 _).mono ?_; rintro e' w1 ⟨rfl, rfl⟩) | (go_at_call 90; with_reducible refine (drs2_w x x0 x1 _).mono ?_; rintro e' w1 ⟨rfl, rfl⟩) | (go_at_call 138; with_reducible refine (df7_w x x0 x1 _).mono ?_; rintro e' w1 ⟨rfl, rfl⟩; (try rw [h])))
  go_step3
  go_wp2_with (first | (go_at_call 86; with_reducible refine (drd_w x x0 x1 _).mono ?_; rintro e' w1 ⟨rfl, rfl⟩) | (go_at_call 87; with_reducible refine (drs1_w x x0 x1 _).mono ?_; rintro e' w1 ⟨rfl, rfl⟩) | (go_at_call 90; with_reducible refine (drs2_w x x0 x1 _).mono ?_; rintro e' w1 ⟨rfl, rfl⟩) | (go_at_call 138; with_reducible refine (df7_w x x0 x1 _).mono ?_; rintro e' w1 ⟨rfl, rfl⟩; (try rw [h])))
  try rw [Exit.noGoto_ret]
  refine bodyPost_ret (v := .tuple #[Ins.v ⟨24, 20, (fl x 128 32), (fl x 32768 32), (fl x 1048576 32), 0, 0, false, false⟩ 0 0, .bool (true)]) (by simp [results, Tryz.results135, go_sem, Ins.v, *]) rfl ⟨RdP.mk ⟨24, 20, (fl x 128 32), (fl x 32768 32), (fl x 1048576 32), 0, 0, false, false⟩ (true) rfl (by simp [dsReg, h, twoB]), by (repeat' (first | with_reducible refine Kp.setCell ?_ ?_ _ | with_reducible refine Kp.allocs ?_ _ _ | with_reducible refine Kp.drew ?_ | with_reducible refine Kp.drewN ?_ _)); all_goals first | exact Kp.refl w | (dsimp only; omega)⟩
set_option maxHeartbeats 4000000 in
theorem dreg_29 (x : Int) (x0 : 0 ≤ x) (x1 : x < 4294967296) (h : fl x 33554432 128 = 29) (w : World) :
    Calls Tryz.prog 135 #[.int .u32 x] w fun e w' => RdP e (dsReg x) ∧ Kp w w' := by
  have brd := fl_bd x 128 32 (by omega)
  have bf3 := fl_bd x 4096 8 (by omega)
  have br1 := fl_bd x 32768 32 (by omega)
  have br2 := fl_bd x 1048576 32 (by omega)
  have bf7 := fl_bd x 33554432 128 (by omega)
  go_enter Tryz.func135, Tryz.ntmps135
  go_wp2_with (first | (go_at_call 86; with_reducible refine (drd_w x x0 x1 _).mono ?_; rintro e' w1 ⟨rfl, rfl⟩) | (go_at_call 87; with_reducible refine (drs1_w x x0 x1 _).mono ?_; rintro e' w1 ⟨rfl, rfl⟩) | (go_at_call 90; with_reducible refine (drs2_w x x0 x1 _).mono ?_; rintro e' w1 ⟨rfl, rfl⟩) | (go_at_call 138; with_reducible refine (df7_w x x0 x1 _).mono ?_; rintro e' w1 ⟨rfl, rfl⟩; (try rw [h])))
  go_step3
  go_wp2_with (first | (go_at_call 86; with_reducible refine (drd_w x x0 x1 _).mono ?_; rintro e' w1 ⟨rfl, rfl⟩) | (go_at_call 87; with_reducible refine (drs1_w x x0 x1 _).mono ?_; rintro e' w1 ⟨rfl, rfl⟩) | (go_at_call 90; with_reducible refine (drs2_w x x0 x1 _).mono ?_; rintro e' w1 ⟨rfl, rfl⟩) | (go_at_call 138; with_reducible refine (df7_w x x0 x1 _).mono ?_; rintro e' w1 ⟨rfl, rfl⟩; (try rw [h])))
  go_step3
  go_wp2_with (first | (go_at_call 86; with_reducible refine (drd_w x x0 x1 _).mono ?_; rintro e' w1 ⟨rfl, rfl⟩) | (go_at_call 87; with_reducible refine (drs1_w x x0 x1 _).mono ?_; rintro e' w1 ⟨rfl, rfl⟩) | (go_at_call 90; with_reducible refine (drs2_w x x0 x1 _).mono ?_; rintro e' w1 ⟨rfl, rfl⟩) | (go_at_call 138; with_reducible refine (df7_w x x0 x1 _).mono ?_; rintro e' w1 ⟨rfl, rfl⟩; (try rw [h])))
  try rw [Exit.noGoto_ret]
  refine bodyPost_ret (v := .tuple #[Ins.v ⟨24, 29, (fl x 128 32), (fl x 32768 32), (fl x 1048576 32), 0, 0, false, false⟩ 0 0, .bool (true)]) (by simp [results, Tryz.results135, go_sem, Ins.v, *]) rfl ⟨RdP.mk ⟨24, 29, (fl x 128 32), (fl x 32768 32), (fl x 1048576 32), 0, 0, false, false⟩ (true) rfl (by simp [dsReg, h, twoB]), by (repeat' (first | with_reducible refine Kp.setCell ?_ ?_ _ | with_reducible refine Kp.allocs ?_ _ _ | with_reducible refine Kp.drew ?_ | with_reducible refine Kp.drewN ?_ _)); all_goals first | exact Kp.refl w | (dsimp only; omega)⟩
set_option maxHeartbeats 4000000 in
theorem dreg_30 (x : Int) (x0 : 0 ≤ x) (x1 : x < 4294967296) (h : fl x 33554432 128 = 30) (w : World) :
    Calls Tryz.prog 135 #[.int .u32 x] w fun e w' => RdP e (dsReg x) ∧ Kp w w' := by
  have brd := fl_bd x 128 32 (by omega)
  have bf3 := fl_bd x 4096 8 (by omega)
  have br1 := fl_bd x 32768 32 (by omega)
  have br2 := fl_bd x 1048576 32 (by omega)
  have bf7 := fl_bd x 33554432 128 (by omega)
  go_enter Tryz.func135, Tryz.ntmps135
  go_wp2_with (first | (go_at_call 86; with_reducible refine (drd_w x x0 x1 _).mono ?_; rintro e' w1 ⟨rfl, rfl⟩) | (go_at_call 87; with_reducible refine (drs1_w x x0 x1 _).mono ?_; rintro e' w1 ⟨rfl, rfl⟩) | (go_at_call 90; with_reducible refine (drs2_w x x0 x1 _).mono ?_; rintro e' w1 ⟨rfl, rfl⟩) | (go_at_call 138; with_reducible refine (df7_w x x0 x1 _).mono ?_; rintro e' w1 ⟨rfl, rfl⟩; (try rw [h])))
  go_step3
  go_wp2_with (first | (go_at_call 86; with_reducible refine (drd_w x x0 x1 _).mono ?_; rintro e' w1 ⟨rfl, rfl⟩) | (go_at_call 87; with_reducible refine (drs1_w x x0 x1 _).mono ?_; rintro e' w1 ⟨rfl, rfl⟩) | (go_at_call 90; with_reducible refine (drs2_w x x0 x1 _).mono ?_; rintro e' w1 ⟨rfl, rfl⟩) | (go_at_call 138; with_reducible refine (df7_w x x0 x1 _).mono ?_; rintro e' w1 ⟨rfl, rfl⟩; (try rw [h])))
  go_step3
  go_wp2_with (first | (go_at_call 86; with_reducible refine (drd_w x x0 x1 _).mono ?_; rintro e' w1 ⟨rfl, rfl⟩) | (go_at_call 87; with_reducible refine (drs1_w x x0 x1 _).mono ?_; rintro e' w1 ⟨rfl, rfl⟩) | (go_at_call 90; with_reducible refine (drs2_w x x0 x1 _).mono ?_; rintro e' w1 ⟨rfl, rfl⟩) | (go_at_call 138; with_reducible refine (df7_w x x0 x1 _).mono ?_; rintro e' w1 ⟨rfl, rfl⟩; (try rw [h])))
  try rw [Exit.noGoto_ret]
  refine bodyPost_ret (v := .tuple #[Ins.v ⟨24, 30, (fl x 128 32), (fl x 32768 32), (fl x 1048576 32), 0, 0, false, false⟩ 0 0, .bool (true)]) (by simp [results, Tryz.results135, go_sem, Ins.v, *]) rfl ⟨RdP.mk ⟨24, 30, (fl x 128 32), (fl x 32768 32), (fl x 1048576 32), 0, 0, false, false⟩ (true) rfl (by simp [dsReg, h, twoB]), by (repeat' (first | with_reducible refine Kp.setCell ?_ ?_ _ | with_reducible refine Kp.allocs ?_ _ _ | with_reducible refine Kp.drew ?_ | with_reducible refine Kp.drewN ?_ _)); all_goals first | exact Kp.refl w | (dsimp only; omega)⟩
set_option maxHeartbeats 4000000 in
theorem dreg_32 (x : Int) (x0 : 0 ≤ x) (x1 : x < 4294967296) (h : fl x 33554432 128 = 32) (w : World) :
    Calls Tryz.prog 135 #[.int .u32 x] w fun e w' => RdP e (dsReg x) ∧ Kp w w' := by
  have brd := fl_bd x 128 32 (by omega)
  have bf3 := fl_bd x 4096 8 (by omega)
  have br1 := fl_bd x 32768 32 (by omega)
  have br2 := fl_bd x 1048576 32 (by omega)
  have bf7 := fl_bd x 33554432 128 (by omega)
  go_enter Tryz.func135, Tryz.ntmps135
  go_wp2_with (first | (go_at_call 86; with_reducible refine (drd_w x x0 x1 _).mono ?_; rintro e' w1 ⟨rfl, rfl⟩) | (go_at_call 87; with_reducible refine (drs1_w x x0 x1 _).mono ?_; rintro e' w1 ⟨rfl, rfl⟩) | (go_at_call 90; with_reducible refine (drs2_w x x0 x1 _).mono ?_; rintro e' w1 ⟨rfl, rfl⟩) | (go_at_call 138; with_reducible refine (df7_w x x0 x1 _).mono ?_; rintro e' w1 ⟨rfl, rfl⟩; (try rw [h])))
  go_step3
  go_wp2_with (first | (go_at_call 86; with_reducible refine (drd_w x x0 x1 _).mono ?_; rintro e' w1 ⟨rfl, rfl⟩) | (go_at_call 87; with_reducible refine (drs1_w x x0 x1 _).mono ?_; rintro e' w1 ⟨rfl, rfl⟩) | (go_at_call 90; with_reducible refine (drs2_w x x0 x1 _).mono ?_; rintro e' w1 ⟨rfl, rfl⟩) | (go_at_call 138; with_reducible refine (df7_w x x0 x1 _).mono ?_; rintro e' w1 ⟨rfl, rfl⟩; (try rw [h])))
  go_step3
  go_wp2_with (first | (go_at_call 86; with_reducible refine (drd_w x x0 x1 _).mono ?_; rintro e' w1 ⟨rfl, rfl⟩) | (go_at_call 87; with_reducible refine (drs1_w x x0 x1 _).mono ?_; rintro e' w1 ⟨rfl, rfl⟩) | (go_at_call 90; with_reducible refine (drs2_w x x0 x1 _).mono ?_; rintro e' w1 ⟨rfl, rfl⟩) | (go_at_call 138; with_reducible refine (df7_w x x0 x1 _).mono ?_; rintro e' w1 ⟨rfl, rfl⟩; (try rw [h])))
  try rw [Exit.noGoto_ret]
  refine bodyPost_ret (v := .tuple #[Ins.v ⟨24, 32, (fl x 128 32), (fl x 32768 32), (fl x 1048576 32), 0, 0, false, false⟩ 0 0, .bool (true)]) (by simp [results, Tryz.results135, go_sem, Ins.v, *]) rfl ⟨RdP.mk ⟨24, 32, (fl x 128 32), (fl x 32768 32), (fl x 1048576 32), 0, 0, false, false⟩ (true) rfl (by simp [dsReg, h, twoB]), by (repeat' (first | with_reducible refine Kp.setCell ?_ ?_ _ | with_reducible refine Kp.allocs ?_ _ _ | with_reducible refine Kp.drew ?_ | with_reducible refine Kp.drewN ?_ _)); all_goals first | exact Kp.refl w | (dsimp only; omega)⟩
end Go.Proofs.YtlfeandnpflaaaaGreatDoor
