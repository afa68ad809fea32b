/-
  Contract of capdec's reader of registers: what is asked of one, the first ways. No condition.
  Contract of capdec's reader of registers: what is asked of one, the other ways. No condition.
-/
import Derived.Test.YtlfeandnpflaaaaGreatDoorMI
import Derived.WalkMore
namespace Go.Proofs.YtlfeandnpflaaaaGreatDoor
open Go.ChangeShapes Go.WideShapes Go.ChangeAt Go.RowKit
set_option linter.unusedVariables false
set_option linter.unusedSimpArgs false

set_option maxHeartbeats 4000000 in
theorem dget_0 (x : Int) (x0 : 0 ≤ x) (x1 : x < 4294967296) (h : fl x 33554432 128 = 127) (h2 : fl x 1048576 32 = 0) (w : World) :
    Calls Tryz.prog 135 #[.int .u32 x] w fun e w' => RdP e (dsReg x) ∧ Kp w w' := by
  have brd := fl_bd x 128 32 (by omega)
  have bf3 := fl_bd x 4096 8 (by omega)
  have br1 := fl_bd x 32768 32 (by omega)
  have br2 := fl_bd x 1048576 32 (by omega)
  have bf7 := fl_bd x 33554432 128 (by omega)
  go_enter Tryz.func135, Tryz.ntmps135
  go_wp2_with (first | (go_at_call 86; with_reducible refine (drd_w x x0 x1 _).mono ?_; rintro e' w1 ⟨rfl, rfl⟩) | (go_at_call 87; with_reducible refine (drs1_w x x0 x1 _).mono ?_; rintro e' w1 ⟨rfl, rfl⟩) | (go_at_call 90; with_reducible refine (drs2_w x x0 x1 _).mono ?_; rintro e' w1 ⟨rfl, rfl⟩; (try rw [h2])) | (go_at_call 138; with_reducible refine (df7_w x x0 x1 _).mono ?_; rintro e' w1 ⟨rfl, rfl⟩; (try rw [h])))
  go_step3
  go_wp2_with (first | (go_at_call 86; with_reducible refine (drd_w x x0 x1 _).mono ?_; rintro e' w1 ⟨rfl, rfl⟩) | (go_at_call 87; with_reducible refine (drs1_w x x0 x1 _).mono ?_; rintro e' w1 ⟨rfl, rfl⟩) | (go_at_call 90; with_reducible refine (drs2_w x x0 x1 _).mono ?_; rintro e' w1 ⟨rfl, rfl⟩; (try rw [h2])) | (go_at_call 138; with_reducible refine (df7_w x x0 x1 _).mono ?_; rintro e' w1 ⟨rfl, rfl⟩; (try rw [h])))
  go_step3
  go_wp2_with (first | (go_at_call 86; with_reducible refine (drd_w x x0 x1 _).mono ?_; rintro e' w1 ⟨rfl, rfl⟩) | (go_at_call 87; with_reducible refine (drs1_w x x0 x1 _).mono ?_; rintro e' w1 ⟨rfl, rfl⟩) | (go_at_call 90; with_reducible refine (drs2_w x x0 x1 _).mono ?_; rintro e' w1 ⟨rfl, rfl⟩; (try rw [h2])) | (go_at_call 138; with_reducible refine (df7_w x x0 x1 _).mono ?_; rintro e' w1 ⟨rfl, rfl⟩; (try rw [h])))
  try rw [Exit.noGoto_ret]
  refine bodyPost_ret (v := .tuple #[Ins.v ⟨23, 0, (fl x 128 32), (fl x 32768 32), 0, 0, 0, false, false⟩ 0 0, .bool (true)]) (by simp [results, Tryz.results135, go_sem, Ins.v, *]) rfl ⟨RdP.mk ⟨23, 0, (fl x 128 32), (fl x 32768 32), 0, 0, 0, false, false⟩ (true) rfl (by simp [dsReg, dsOne, h, h2, twoB, getB]), by (repeat' (first | with_reducible refine Kp.setCell ?_ ?_ _ | with_reducible refine Kp.allocs ?_ _ _ | with_reducible refine Kp.drew ?_ | with_reducible refine Kp.drewN ?_ _)); all_goals first | exact Kp.refl w | (dsimp only; omega)⟩
set_option maxHeartbeats 4000000 in
theorem dget_1 (x : Int) (x0 : 0 ≤ x) (x1 : x < 4294967296) (h : fl x 33554432 128 = 127) (h2 : fl x 1048576 32 = 1) (w : World) :
    Calls Tryz.prog 135 #[.int .u32 x] w fun e w' => RdP e (dsReg x) ∧ Kp w w' := by
  have brd := fl_bd x 128 32 (by omega)
  have bf3 := fl_bd x 4096 8 (by omega)
  have br1 := fl_bd x 32768 32 (by omega)
  have br2 := fl_bd x 1048576 32 (by omega)
  have bf7 := fl_bd x 33554432 128 (by omega)
  go_enter Tryz.func135, Tryz.ntmps135
  go_wp2_with (first | (go_at_call 86; with_reducible refine (drd_w x x0 x1 _).mono ?_; rintro e' w1 ⟨rfl, rfl⟩) | (go_at_call 87; with_reducible refine (drs1_w x x0 x1 _).mono ?_; rintro e' w1 ⟨rfl, rfl⟩) | (go_at_call 90; with_reducible refine (drs2_w x x0 x1 _).mono ?_; rintro e' w1 ⟨rfl, rfl⟩; (try rw [h2])) | (go_at_call 138; with_reducible refine (df7_w x x0 x1 _).mono ?_; rintro e' w1 ⟨rfl, rfl⟩; (try rw [h])))
  go_step3
  go_wp2_with (first | (go_at_call 86; with_reducible refine (drd_w x x0 x1 _).mono ?_; rintro e' w1 ⟨rfl, rfl⟩) | (go_at_call 87; with_reducible refine (drs1_w x x0 x1 _).mono ?_; rintro e' w1 ⟨rfl, rfl⟩) | (go_at_call 90; with_reducible refine (drs2_w x x0 x1 _).mono ?_; rintro e' w1 ⟨rfl, rfl⟩; (try rw [h2])) | (go_at_call 138; with_reducible refine (df7_w x x0 x1 _).mono ?_; rintro e' w1 ⟨rfl, rfl⟩; (try rw [h])))
  go_step3
  go_wp2_with (first | (go_at_call 86; with_reducible refine (drd_w x x0 x1 _).mono ?_; rintro e' w1 ⟨rfl, rfl⟩) | (go_at_call 87; with_reducible refine (drs1_w x x0 x1 _).mono ?_; rintro e' w1 ⟨rfl, rfl⟩) | (go_at_call 90; with_reducible refine (drs2_w x x0 x1 _).mono ?_; rintro e' w1 ⟨rfl, rfl⟩; (try rw [h2])) | (go_at_call 138; with_reducible refine (df7_w x x0 x1 _).mono ?_; rintro e' w1 ⟨rfl, rfl⟩; (try rw [h])))
  try rw [Exit.noGoto_ret]
  refine bodyPost_ret (v := .tuple #[Ins.v ⟨23, 1, (fl x 128 32), (fl x 32768 32), 0, 0, 0, false, false⟩ 0 0, .bool (true)]) (by simp [results, Tryz.results135, go_sem, Ins.v, *]) rfl ⟨RdP.mk ⟨23, 1, (fl x 128 32), (fl x 32768 32), 0, 0, 0, false, false⟩ (true) rfl (by simp [dsReg, dsOne, h, h2, twoB, getB]), by (repeat' (first | with_reducible refine Kp.setCell ?_ ?_ _ | with_reducible refine Kp.allocs ?_ _ _ | with_reducible refine Kp.drew ?_ | with_reducible refine Kp.drewN ?_ _)); all_goals first | exact Kp.refl w | (dsimp only; omega)⟩
set_option maxHeartbeats 4000000 in
theorem dget_2 (x : Int) (x0 : 0 ≤ x) (x1 : x < 4294967296) (h : fl x 33554432 128 = 127) (h2 : fl x 1048576 32 = 2) (w : World) :
    Calls Tryz.prog 135 #[.int .u32 x] w fun e w' => RdP e (dsReg x) ∧ Kp w w' := by
  have brd := fl_bd x 128 32 (by omega)
  have bf3 := fl_bd x 4096 8 (by omega)
  have br1 := fl_bd x 32768 32 (by omega)
  have br2 := fl_bd x 1048576 32 (by omega)
  have bf7 := fl_bd x 33554432 128 (by omega)
  go_enter Tryz.func135, Tryz.ntmps135
  go_wp2_with (first | (go_at_call 86; with_reducible refine (drd_w x x0 x1 _).mono ?_; rintro e' w1 ⟨rfl, rfl⟩) | (go_at_call 87; with_reducible refine (drs1_w x x0 x1 _).mono ?_; rintro e' w1 ⟨rfl, rfl⟩) | (go_at_call 90; with_reducible refine (drs2_w x x0 x1 _).mono ?_; rintro e' w1 ⟨rfl, rfl⟩; (try rw [h2])) | (go_at_call 138; with_reducible refine (df7_w x x0 x1 _).mono ?_; rintro e' w1 ⟨rfl, rfl⟩; (try rw [h])))
  go_step3
  go_wp2_with (first | (go_at_call 86; with_reducible refine (drd_w x x0 x1 _).mono ?_; rintro e' w1 ⟨rfl, rfl⟩) | (go_at_call 87; with_reducible refine (drs1_w x x0 x1 _).mono ?_; rintro e' w1 ⟨rfl, rfl⟩) | (go_at_call 90; with_reducible refine (drs2_w x x0 x1 _).mono ?_; rintro e' w1 ⟨rfl, rfl⟩; (try rw [h2])) | (go_at_call 138; with_reducible refine (df7_w x x0 x1 _).mono ?_; rintro e' w1 ⟨rfl, rfl⟩; (try rw [h])))
  go_step3
  go_wp2_with (first | (go_at_call 86; with_reducible refine (drd_w x x0 x1 _).mono ?_; rintro e' w1 ⟨rfl, rfl⟩) | (go_at_call 87; with_reducible refine (drs1_w x x0 x1 _).mono ?_; rintro e' w1 ⟨rfl, rfl⟩) | (go_at_call 90; with_reducible refine (drs2_w x x0 x1 _).mono ?_; rintro e' w1 ⟨rfl, rfl⟩; (try rw [h2])) | (go_at_call 138; with_reducible refine (df7_w x x0 x1 _).mono ?_; rintro e' w1 ⟨rfl, rfl⟩; (try rw [h])))
  try rw [Exit.noGoto_ret]
  refine bodyPost_ret (v := .tuple #[Ins.v ⟨23, 2, (fl x 128 32), (fl x 32768 32), 0, 0, 0, false, false⟩ 0 0, .bool (true)]) (by simp [results, Tryz.results135, go_sem, Ins.v, *]) rfl ⟨RdP.mk ⟨23, 2, (fl x 128 32), (fl x 32768 32), 0, 0, 0, false, false⟩ (true) rfl (by simp [dsReg, dsOne, h, h2, twoB, getB]), by (repeat' (first | with_reducible refine Kp.setCell ?_ ?_ _ | with_reducible refine Kp.allocs ?_ _ _ | with_reducible refine Kp.drew ?_ | with_reducible refine Kp.drewN ?_ _)); all_goals first | exact Kp.refl w | (dsimp only; omega)⟩
set_option maxHeartbeats 4000000 in
theorem dget_3 (x : Int) (x0 : 0 ≤ x) (x1 : x < 4294967296) (h : fl x 33554432 128 = 127) (h2 : fl x 1048576 32 = 3) (w : World) :
    Calls Tryz.prog 135 #[.int .u32 x] w fun e w' => RdP e (dsReg x) ∧ Kp w w' := by
  have brd := fl_bd x 128 32 (by omega)
  have bf3 := fl_bd x 4096 8 (by omega)
  have br1 := fl_bd x 32768 32 (by omega)
  have br2 := fl_bd x 1048576 32 (by omega)
  have bf7 := fl_bd x 33554432 128 (by omega)
  go_enter Tryz.func135, Tryz.ntmps135
  go_wp2_with (first | (go_at_call 86; with_reducible refine (drd_w x x0 x1 _).mono ?_; rintro e' w1 ⟨rfl, rfl⟩) | (go_at_call 87; with_reducible refine (drs1_w x x0 x1 _).mono ?_; rintro e' w1 ⟨rfl, rfl⟩) | (go_at_call 90; with_reducible refine (drs2_w x x0 x1 _).mono ?_; rintro e' w1 ⟨rfl, rfl⟩; (try rw [h2])) | (go_at_call 138; with_reducible refine (df7_w x x0 x1 _).mono ?_; rintro e' w1 ⟨rfl, rfl⟩; (try rw [h])))
  go_step3
  go_wp2_with (first | (go_at_call 86; with_reducible refine (drd_w x x0 x1 _).mono ?_; rintro e' w1 ⟨rfl, rfl⟩) | (go_at_call 87; with_reducible refine (drs1_w x x0 x1 _).mono ?_; rintro e' w1 ⟨rfl, rfl⟩) | (go_at_call 90; with_reducible refine (drs2_w x x0 x1 _).mono ?_; rintro e' w1 ⟨rfl, rfl⟩; (try rw [h2])) | (go_at_call 138; with_reducible refine (df7_w x x0 x1 _).mono ?_; rintro e' w1 ⟨rfl, rfl⟩; (try rw [h])))
  go_step3
  go_wp2_with (first | (go_at_call 86; with_reducible refine (drd_w x x0 x1 _).mono ?_; rintro e' w1 ⟨rfl, rfl⟩) | (go_at_call 87; with_reducible refine (drs1_w x x0 x1 _).mono ?_; rintro e' w1 ⟨rfl, rfl⟩) | (go_at_call 90; with_reducible refine (drs2_w x x0 x1 _).mono ?_; rintro e' w1 ⟨rfl, rfl⟩; (try rw [h2])) | (go_at_call 138; with_reducible refine (df7_w x x0 x1 _).mono ?_; rintro e' w1 ⟨rfl, rfl⟩; (try rw [h])))
  try rw [Exit.noGoto_ret]
  refine bodyPost_ret (v := .tuple #[Ins.v ⟨23, 3, (fl x 128 32), (fl x 32768 32), 0, 0, 0, false, false⟩ 0 0, .bool (true)]) (by simp [results, Tryz.results135, go_sem, Ins.v, *]) rfl ⟨RdP.mk ⟨23, 3, (fl x 128 32), (fl x 32768 32), 0, 0, 0, false, false⟩ (true) rfl (by simp [dsReg, dsOne, h, h2, twoB, getB]), by (repeat' (first | with_reducible refine Kp.setCell ?_ ?_ _ | with_reducible refine Kp.allocs ?_ _ _ | with_reducible refine Kp.drew ?_ | with_reducible refine Kp.drewN ?_ _)); all_goals first | exact Kp.refl w | (dsimp only; omega)⟩
set_option maxHeartbeats 4000000 in
theorem dget_4 (x : Int) (x0 : 0 ≤ x) (x1 : x < 4294967296) (h : fl x 33554432 128 = 127) (h2 : fl x 1048576 32 = 4) (w : World) :
    Calls Tryz.prog 135 #[.int .u32 x] w fun e w' => RdP e (dsReg x) ∧ Kp w w' := by
  have brd := fl_bd x 128 32 (by omega)
  have bf3 := fl_bd x 4096 8 (by omega)
  have br1 := fl_bd x 32768 32 (by omega)
  have br2 := fl_bd x 1048576 32 (by omega)
  have bf7 := fl_bd x 33554432 128 (by omega)
  go_enter Tryz.func135, Tryz.ntmps135
  go_wp2_with (first | (go_at_call 86; with_reducible refine (drd_w x x0 x1 _).mono ?_; rintro e' w1 ⟨rfl, rfl⟩) | (go_at_call 87; with_reducible refine (drs1_w x x0 x1 _).mono ?_; rintro e' w1 ⟨rfl, rfl⟩) | (go_at_call 90; with_reducible refine (drs2_w x x0 x1 _).mono ?_; rintro e' w1 ⟨rfl, rfl⟩; (try rw [h2])) | (go_at_call 138; with_reducible refine (df7_w x x0 x1 _).mono ?_; rintro e' w1 ⟨rfl, rfl⟩; (try rw [h])))
  go_step3
  go_wp2_with (first | (go_at_call 86; with_reducible refine (drd_w x x0 x1 _).mono ?_; rintro e' w1 ⟨rfl, rfl⟩) | (go_at_call 87; with_reducible refine (drs1_w x x0 x1 _).mono ?_; rintro e' w1 ⟨rfl, rfl⟩) | (go_at_call 90; with_reducible refine (drs2_w x x0 x1 _).mono ?_; rintro e' w1 ⟨rfl, rfl⟩; (try rw [h2])) | (go_at_call 138; with_reducible refine (df7_w x x0 x1 _).mono ?_; rintro e' w1 ⟨rfl, rfl⟩; (try rw [h])))
  go_step3
  go_wp2_with (first | (go_at_call 86; with_reducible refine (drd_w x x0 x1 _).mono ?_; rintro e' w1 ⟨rfl, rfl⟩) | (go_at_call 87; with_reducible refine (drs1_w x x0 x1 _).mono ?_; rintro e' w1 ⟨rfl, rfl⟩) | (go_at_call 90; with_reducible refine (drs2_w x x0 x1 _).mono ?_; rintro e' w1 ⟨rfl, rfl⟩; (try rw [h2])) | (go_at_call 138; with_reducible refine (df7_w x x0 x1 _).mono ?_; rintro e' w1 ⟨rfl, rfl⟩; (try rw [h])))
  try rw [Exit.noGoto_ret]
  refine bodyPost_ret (v := .tuple #[Ins.v ⟨23, 4, (fl x 128 32), (fl x 32768 32), 0, 0, 0, false, false⟩ 0 0, .bool (true)]) (by simp [results, Tryz.results135, go_sem, Ins.v, *]) rfl ⟨RdP.mk ⟨23, 4, (fl x 128 32), (fl x 32768 32), 0, 0, 0, false, false⟩ (true) rfl (by simp [dsReg, dsOne, h, h2, twoB, getB]), by (repeat' (first | with_reducible refine Kp.setCell ?_ ?_ _ | with_reducible refine Kp.allocs ?_ _ _ | with_reducible refine Kp.drew ?_ | with_reducible refine Kp.drewN ?_ _)); all_goals first | exact Kp.refl w | (dsimp only; omega)⟩
set_option maxHeartbeats 4000000 in
theorem dget_5 (x : Int) (x0 : 0 ≤ x) (x1 : x < 4294967296) (h : fl x 33554432 128 = 127) (h2 : fl x 1048576 32 = 5) (w : World) :
    Calls Tryz.prog 135 #[.int .u32 x] w fun e w' => RdP e (dsReg x) ∧ Kp w w' := by
  have brd := fl_bd x 128 32 (by omega)
  have bf3 := fl_bd x 4096 8 (by omega)
  have br1 := fl_bd x 32768 32 (by omega)
  have br2 := fl_bd x 1048576 32 (by omega)
  have bf7 := fl_bd x 33554432 128 (by omega)
  go_enter Tryz.func135, Tryz.ntmps135
  go_wp2_with (first | (go_at_call 86; with_reducible refine (drd_w x x0 x1 _).mono ?_; rintro e' w1 ⟨rfl, rfl⟩) | (go_at_call 87; with_reducible refine (drs1_w x x0 x1 _).mono ?_; rintro e' w1 ⟨rfl, rfl⟩) | (go_at_call 90; with_reducible refine (drs2_w x x0 x1 _).mono ?_; rintro e' w1 ⟨rfl, rfl⟩; (try rw [h2])) | (go_at_call 138; with_reducible refine (df7_w x x0 x1 _).mono ?_; rintro e' w1 ⟨rfl, rfl⟩; (try rw [h])))
  go_step3
  go_wp2_with (first | (go_at_call 86; with_reducible refine (drd_w x x0 x1 _).mono ?_; rintro e' w1 ⟨rfl, rfl⟩) | (go_at_call 87; with_reducible refine (drs1_w x x0 x1 _).mono ?_; rintro e' w1 ⟨rfl, rfl⟩) | (go_at_call 90; with_reducible refine (drs2_w x x0 x1 _).mono ?_; rintro e' w1 ⟨rfl, rfl⟩; (try rw [h2])) | (go_at_call 138; with_reducible refine (df7_w x x0 x1 _).mono ?_; rintro e' w1 ⟨rfl, rfl⟩; (try rw [h])))
  go_step3
  go_wp2_with (first | (go_at_call 86; with_reducible refine (drd_w x x0 x1 _).mono ?_; rintro e' w1 ⟨rfl, rfl⟩) | (go_at_call 87; with_reducible refine (drs1_w x x0 x1 _).mono ?_; rintro e' w1 ⟨rfl, rfl⟩) | (go_at_call 90; with_reducible refine (drs2_w x x0 x1 _).mono ?_; rintro e' w1 ⟨rfl, rfl⟩; (try rw [h2])) | (go_at_call 138; with_reducible refine (df7_w x x0 x1 _).mono ?_; rintro e' w1 ⟨rfl, rfl⟩; (try rw [h])))
  try rw [Exit.noGoto_ret]
  refine bodyPost_ret (v := .tuple #[Ins.v ⟨23, 5, (fl x 128 32), (fl x 32768 32), 0, 0, 0, false, false⟩ 0 0, .bool (true)]) (by simp [results, Tryz.results135, go_sem, Ins.v, *]) rfl ⟨RdP.mk ⟨23, 5, (fl x 128 32), (fl x 32768 32), 0, 0, 0, false, false⟩ (true) rfl (by simp [dsReg, dsOne, h, h2, twoB, getB]), by (repeat' (first | with_reducible refine Kp.setCell ?_ ?_ _ | with_reducible refine Kp.allocs ?_ _ _ | with_reducible refine Kp.drew ?_ | with_reducible refine Kp.drewN ?_ _)); all_goals first | exact Kp.refl w | (dsimp only; omega)⟩
set_option maxHeartbeats 4000000 in
theorem dget_6 (x : Int) (x0 : 0 ≤ x) (x1 : x < 4294967296) (h : fl x 33554432 128 = 127) (h2 : fl x 1048576 32 = 6) (w : World) :
    Calls Tryz.prog 135 #[.int .u32 x] w fun e w' => RdP e (dsReg x) ∧ Kp w w' := by
  have brd := fl_bd x 128 32 (by omega)
  have bf3 := fl_bd x 4096 8 (by omega)
  have br1 := fl_bd x 32768 32 (by omega)
  have br2 := fl_bd x 1048576 32 (by omega)
  have bf7 := fl_bd x 33554432 128 (by omega)
  go_enter Tryz.func135, Tryz.ntmps135
  go_wp2_with (first | (go_at_call 86; with_reducible refine (drd_w x x0 x1 _).mono ?_; rintro e' w1 ⟨rfl, rfl⟩) | (go_at_call 87; with_reducible refine (drs1_w x x0 x1 _).mono ?_; rintro e' w1 ⟨rfl, rfl⟩) | (go_at_call 90; with_reducible refine (drs2_w x x0 x1 _).mono ?_; rintro e' w1 ⟨rfl, rfl⟩; (try rw [h2])) | (go_at_call 138; with_reducible refine (df7_w x x0 x1 _).mono ?_; rintro e' w1 ⟨rfl, rfl⟩; (try rw [h])))
  go_step3
  go_wp2_with (first | (go_at_call 86; with_reducible refine (drd_w x x0 x1 _).mono ?_; rintro e' w1 ⟨rfl, rfl⟩) | (go_at_call 87; with_reducible refine (drs1_w x x0 x1 _).mono ?_; rintro e' w1 ⟨rfl, rfl⟩) | (go_at_call 90; with_reducible refine (drs2_w x x0 x1 _).mono ?_; rintro e' w1 ⟨rfl, rfl⟩; (try rw [h2])) | (go_at_call 138; with_reducible refine (df7_w x x0 x1 _).mono ?_; rintro e' w1 ⟨rfl, rfl⟩; (try rw [h])))
  go_step3
  go_wp2_with (first | (go_at_call 86; with_reducible refine (drd_w x x0 x1 _).mono ?_; rintro e' w1 ⟨rfl, rfl⟩) | (go_at_call 87; with_reducible refine (drs1_w x x0 x1 _).mono ?_; rintro e' w1 ⟨rfl, rfl⟩) | (go_at_call 90; with_reducible refine (drs2_w x x0 x1 _).mono ?_; rintro e' w1 ⟨rfl, rfl⟩; (try rw [h2])) | (go_at_call 138; with_reducible refine (df7_w x x0 x1 _).mono ?_; rintro e' w1 ⟨rfl, rfl⟩; (try rw [h])))
  try rw [Exit.noGoto_ret]
  refine bodyPost_ret (v := .tuple #[Ins.v ⟨23, 6, (fl x 128 32), (fl x 32768 32), 0, 0, 0, false, false⟩ 0 0, .bool (true)]) (by simp [results, Tryz.results135, go_sem, Ins.v, *]) rfl ⟨RdP.mk ⟨23, 6, (fl x 128 32), (fl x 32768 32), 0, 0, 0, false, false⟩ (true) rfl (by simp [dsReg, dsOne, h, h2, twoB, getB]), by (repeat' (first | with_reducible refine Kp.setCell ?_ ?_ _ | with_reducible refine Kp.allocs ?_ _ _ | with_reducible refine Kp.drew ?_ | with_reducible refine Kp.drewN ?_ _)); all_goals first | exact Kp.refl w | (dsimp only; omega)⟩
set_option maxHeartbeats 4000000 in
theorem dget_7 (x : Int) (x0 : 0 ≤ x) (x1 : x < 4294967296) (h : fl x 33554432 128 = 127) (h2 : fl x 1048576 32 = 7) (w : World) :
    Calls Tryz.prog 135 #[.int .u32 x] w fun e w' => RdP e (dsReg x) ∧ Kp w w' := by
  have brd := fl_bd x 128 32 (by omega)
  have bf3 := fl_bd x 4096 8 (by omega)
  have br1 := fl_bd x 32768 32 (by omega)
  have br2 := fl_bd x 1048576 32 (by omega)
  have bf7 := fl_bd x 33554432 128 (by omega)
  go_enter Tryz.func135, Tryz.ntmps135
  go_wp2_with (first | (go_at_call 86; with_reducible refine (drd_w x x0 x1 _).mono ?_; rintro e' w1 ⟨rfl, rfl⟩) | (go_at_call 87; with_reducible refine (drs1_w x x0 x1 _).mono ?_; rintro e' w1 ⟨rfl, rfl⟩) | (go_at_call 90; with_reducible refine (drs2_w x x0 x1 _).mono ?_; rintro e' w1 ⟨rfl, rfl⟩; (try rw [h2])) | (go_at_call 138; with_reducible refine (df7_w x x0 x1 _).mono ?_; rintro e' w1 ⟨rfl, rfl⟩; (try rw [h])))
  go_step3
  go_wp2_with (first | (go_at_call 86; with_reducible refine (drd_w x x0 x1 _).mono ?_; rintro e' w1 ⟨rfl, rfl⟩) | (go_at_call 87; with_reducible refine (drs1_w x x0 x1 _).mono ?_; rintro e' w1 ⟨rfl, rfl⟩) | (go_at_call 90; with_reducible refine (drs2_w x x0 x1 _).mono ?_; rintro e' w1 ⟨rfl, rfl⟩; (try rw [h2])) | (go_at_call 138; with_reducible refine (df7_w x x0 x1 _).mono ?_; rintro e' w1 ⟨rfl, rfl⟩; (try rw [h])))
  go_step3
  go_wp2_with (first | (go_at_call 86; with_reducible refine (drd_w x x0 x1 _).mono ?_; rintro e' w1 ⟨rfl, rfl⟩) | (go_at_call 87; with_reducible refine (drs1_w x x0 x1 _).mono ?_; rintro e' w1 ⟨rfl, rfl⟩) | (go_at_call 90; with_reducible refine (drs2_w x x0 x1 _).mono ?_; rintro e' w1 ⟨rfl, rfl⟩; (try rw [h2])) | (go_at_call 138; with_reducible refine (df7_w x x0 x1 _).mono ?_; rintro e' w1 ⟨rfl, rfl⟩; (try rw [h])))
  try rw [Exit.noGoto_ret]
  refine bodyPost_ret (v := .tuple #[Ins.v ⟨23, 7, (fl x 128 32), (fl x 32768 32), 0, 0, 0, false, false⟩ 0 0, .bool (true)]) (by simp [results, Tryz.results135, go_sem, Ins.v, *]) rfl ⟨RdP.mk ⟨23, 7, (fl x 128 32), (fl x 32768 32), 0, 0, 0, false, false⟩ (true) rfl (by simp [dsReg, dsOne, h, h2, twoB, getB]), by (repeat' (first | with_reducible refine Kp.setCell ?_ ?_ _ | with_reducible refine Kp.allocs ?_ _ _ | with_reducible refine Kp.drew ?_ | with_reducible refine Kp.drewN ?_ _)); all_goals first | exact Kp.refl w | (dsimp only; omega)⟩
end Go.Proofs.YtlfeandnpflaaaaGreatDoor
namespace Go.Proofs.YtlfeandnpflaaaaGreatDoor
open Go.ChangeShapes Go.WideShapes Go.ChangeAt Go.RowKit
set_option linter.unusedVariables false
set_option linter.unusedSimpArgs false

set_option maxHeartbeats 4000000 in
theorem dget_8 (x : Int) (x0 : 0 ≤ x) (x1 : x < 4294967296) (h : fl x 33554432 128 = 127) (h2 : fl x 1048576 32 = 8) (w : World) :
    Calls Tryz.prog 135 #[.int .u32 x] w fun e w' => RdP e (dsReg x) ∧ Kp w w' := by
  have brd := fl_bd x 128 32 (by omega)
  have bf3 := fl_bd x 4096 8 (by omega)
  have br1 := fl_bd x 32768 32 (by omega)
  have br2 := fl_bd x 1048576 32 (by omega)
  have bf7 := fl_bd x 33554432 128 (by omega)
  go_enter Tryz.func135, Tryz.ntmps135
  go_wp2_with (first | (go_at_call 86; with_reducible refine (drd_w x x0 x1 _).mono ?_; rintro e' w1 ⟨rfl, rfl⟩) | (go_at_call 87; with_reducible refine (drs1_w x x0 x1 _).mono ?_; rintro e' w1 ⟨rfl, rfl⟩) | (go_at_call 90; with_reducible refine (drs2_w x x0 x1 _).mono ?_; rintro e' w1 ⟨rfl, rfl⟩; (try rw [h2])) | (go_at_call 138; with_reducible refine (df7_w x x0 x1 _).mono ?_; rintro e' w1 ⟨rfl, rfl⟩; (try rw [h])))
  go_step3
  go_wp2_with (first | (go_at_call 86; with_reducible refine (drd_w x x0 x1 _).mono ?_; rintro e' w1 ⟨rfl, rfl⟩) | (go_at_call 87; with_reducible refine (drs1_w x x0 x1 _).mono ?_; rintro e' w1 ⟨rfl, rfl⟩) | (go_at_call 90; with_reducible refine (drs2_w x x0 x1 _).mono ?_; rintro e' w1 ⟨rfl, rfl⟩; (try rw [h2])) | (go_at_call 138; with_reducible refine (df7_w x x0 x1 _).mono ?_; rintro e' w1 ⟨rfl, rfl⟩; (try rw [h])))
  go_step3
  go_wp2_with (first | (go_at_call 86; with_reducible refine (drd_w x x0 x1 _).mono ?_; rintro e' w1 ⟨rfl, rfl⟩) | (go_at_call 87; with_reducible refine (drs1_w x x0 x1 _).mono ?_; rintro e' w1 ⟨rfl, rfl⟩) | (go_at_call 90; with_reducible refine (drs2_w x x0 x1 _).mono ?_; rintro e' w1 ⟨rfl, rfl⟩; (try rw [h2])) | (go_at_call 138; with_reducible refine (df7_w x x0 x1 _).mono ?_; rintro e' w1 ⟨rfl, rfl⟩; (try rw [h])))
  try rw [Exit.noGoto_ret]
  refine bodyPost_ret (v := .tuple #[Ins.v ⟨23, 8, (fl x 128 32), (fl x 32768 32), 0, 0, 0, false, false⟩ 0 0, .bool (true)]) (by simp [results, Tryz.results135, go_sem, Ins.v, *]) rfl ⟨RdP.mk ⟨23, 8, (fl x 128 32), (fl x 32768 32), 0, 0, 0, false, false⟩ (true) rfl (by simp [dsReg, dsOne, h, h2, twoB, getB]), by (repeat' (first | with_reducible refine Kp.setCell ?_ ?_ _ | with_reducible refine Kp.allocs ?_ _ _ | with_reducible refine Kp.drew ?_ | with_reducible refine Kp.drewN ?_ _)); all_goals first | exact Kp.refl w | (dsimp only; omega)⟩
set_option maxHeartbeats 4000000 in
theorem dget_9 (x : Int) (x0 : 0 ≤ x) (x1 : x < 4294967296) (h : fl x 33554432 128 = 127) (h2 : fl x 1048576 32 = 9) (w : World) :
    Calls Tryz.prog 135 #[.int .u32 x] w fun e w' => RdP e (dsReg x) ∧ Kp w w' := by
  have brd := fl_bd x 128 32 (by omega)
  have bf3 := fl_bd x 4096 8 (by omega)
  have br1 := fl_bd x 32768 32 (by omega)
  have br2 := fl_bd x 1048576 32 (by omega)
  have bf7 := fl_bd x 33554432 128 (by omega)
  go_enter Tryz.func135, Tryz.ntmps135
  go_wp2_with (first | (go_at_call 86; with_reducible refine (drd_w x x0 x1 _).mono ?_; rintro e' w1 ⟨rfl, rfl⟩) | (go_at_call 87; with_reducible refine (drs1_w x x0 x1 _).mono ?_; rintro e' w1 ⟨rfl, rfl⟩) | (go_at_call 90; with_reducible refine (drs2_w x x0 x1 _).mono ?_; rintro e' w1 ⟨rfl, rfl⟩; (try rw [h2])) | (go_at_call 138; with_reducible refine (df7_w x x0 x1 _).mono ?_; rintro e' w1 ⟨rfl, rfl⟩; (try rw [h])))
  go_step3
  go_wp2_with (first | (go_at_call 86; with_reducible refine (drd_w x x0 x1 _).mono ?_; rintro e' w1 ⟨rfl, rfl⟩) | (go_at_call 87; with_reducible refine (drs1_w x x0 x1 _).mono ?_; rintro e' w1 ⟨rfl, rfl⟩) | (go_at_call 90; with_reducible refine (drs2_w x x0 x1 _).mono ?_; rintro e' w1 ⟨rfl, rfl⟩; (try rw [h2])) | (go_at_call 138; with_reducible refine (df7_w x x0 x1 _).mono ?_; rintro e' w1 ⟨rfl, rfl⟩; (try rw [h])))
  go_step3
  go_wp2_with (first | (go_at_call 86; with_reducible refine (drd_w x x0 x1 _).mono ?_; rintro e' w1 ⟨rfl, rfl⟩) | (go_at_call 87; with_reducible refine (drs1_w x x0 x1 _).mono ?_; rintro e' w1 ⟨rfl, rfl⟩) | (go_at_call 90; with_reducible refine (drs2_w x x0 x1 _).mono ?_; rintro e' w1 ⟨rfl, rfl⟩; (try rw [h2])) | (go_at_call 138; with_reducible refine (df7_w x x0 x1 _).mono ?_; rintro e' w1 ⟨rfl, rfl⟩; (try rw [h])))
  try rw [Exit.noGoto_ret]
  refine bodyPost_ret (v := .tuple #[Ins.v ⟨23, 9, (fl x 128 32), (fl x 32768 32), 0, 0, 0, false, false⟩ 0 0, .bool (true)]) (by simp [results, Tryz.results135, go_sem, Ins.v, *]) rfl ⟨RdP.mk ⟨23, 9, (fl x 128 32), (fl x 32768 32), 0, 0, 0, false, false⟩ (true) rfl (by simp [dsReg, dsOne, h, h2, twoB, getB]), by (repeat' (first | with_reducible refine Kp.setCell ?_ ?_ _ | with_reducible refine Kp.allocs ?_ _ _ | with_reducible refine Kp.drew ?_ | with_reducible refine Kp.drewN ?_ _)); all_goals first | exact Kp.refl w | (dsimp only; omega)⟩
set_option maxHeartbeats 4000000 in
theorem dget_10 (x : Int) (x0 : 0 ≤ x) (x1 : x < 4294967296) (h : fl x 33554432 128 = 127) (h2 : fl x 1048576 32 = 10) (w : World) :
    Calls Tryz.prog 135 #[.int .u32 x] w fun e w' => RdP e (dsReg x) ∧ Kp w w' := by
  have brd := fl_bd x 128 32 (by omega)
  have bf3 := fl_bd x 4096 8 (by omega)
  have br1 := fl_bd x 32768 32 (by omega)
  have br2 := fl_bd x 1048576 32 (by omega)
  have bf7 := fl_bd x 33554432 128 (by omega)
  go_enter Tryz.func135, Tryz.ntmps135
  go_wp2_with (first | (go_at_call 86; with_reducible refine (drd_w x x0 x1 _).mono ?_; rintro e' w1 ⟨rfl, rfl⟩) | (go_at_call 87; with_reducible refine (drs1_w x x0 x1 _).mono ?_; rintro e' w1 ⟨rfl, rfl⟩) | (go_at_call 90; with_reducible refine (drs2_w x x0 x1 _).mono ?_; rintro e' w1 ⟨rfl, rfl⟩; (try rw [h2])) | (go_at_call 138; with_reducible refine (df7_w x x0 x1 _).mono ?_; rintro e' w1 ⟨rfl, rfl⟩; (try rw [h])))
  go_step3
  go_wp2_with (first | (go_at_call 86; with_reducible refine (drd_w x x0 x1 _).mono ?_; rintro e' w1 ⟨rfl, rfl⟩) | (go_at_call 87; with_reducible refine (drs1_w x x0 x1 _).mono ?_; rintro e' w1 ⟨rfl, rfl⟩) | (go_at_call 90; with_reducible refine (drs2_w x x0 x1 _).mono ?_; rintro e' w1 ⟨rfl, rfl⟩; (try rw [h2])) | (go_at_call 138; with_reducible refine (df7_w x x0 x1 _).mono ?_; rintro e' w1 ⟨rfl, rfl⟩; (try rw [h])))
  go_step3
  go_wp2_with (first | (go_at_call 86; with_reducible refine (drd_w x x0 x1 _).mono ?_; rintro e' w1 ⟨rfl, rfl⟩) | (go_at_call 87; with_reducible refine (drs1_w x x0 x1 _).mono ?_; rintro e' w1 ⟨rfl, rfl⟩) | (go_at_call 90; with_reducible refine (drs2_w x x0 x1 _).mono ?_; rintro e' w1 ⟨rfl, rfl⟩; (try rw [h2])) | (go_at_call 138; with_reducible refine (df7_w x x0 x1 _).mono ?_; rintro e' w1 ⟨rfl, rfl⟩; (try rw [h])))
  try rw [Exit.noGoto_ret]
  refine bodyPost_ret (v := .tuple #[Ins.v ⟨23, 10, (fl x 128 32), (fl x 32768 32), 0, 0, 0, false, false⟩ 0 0, .bool (true)]) (by simp [results, Tryz.results135, go_sem, Ins.v, *]) rfl ⟨RdP.mk ⟨23, 10, (fl x 128 32), (fl x 32768 32), 0, 0, 0, false, false⟩ (true) rfl (by simp [dsReg, dsOne, h, h2, twoB, getB]), by (repeat' (first | with_reducible refine Kp.setCell ?_ ?_ _ | with_reducible refine Kp.allocs ?_ _ _ | with_reducible refine Kp.drew ?_ | with_reducible refine Kp.drewN ?_ _)); all_goals first | exact Kp.refl w | (dsimp only; omega)⟩
set_option maxHeartbeats 4000000 in
theorem dget_11 (x : Int) (x0 : 0 ≤ x) (x1 : x < 4294967296) (h : fl x 33554432 128 = 127) (h2 : fl x 1048576 32 = 11) (w : World) :
    Calls Tryz.prog 135 #[.int .u32 x] w fun e w' => RdP e (dsReg x) ∧ Kp w w' := by
  have brd := fl_bd x 128 32 (by omega)
  have bf3 := fl_bd x 4096 8 (by omega)
  have br1 := fl_bd x 32768 32 (by omega)
  have br2 := fl_bd x 1048576 32 (by omega)
  have bf7 := fl_bd x 33554432 128 (by omega)
  go_enter Tryz.func135, Tryz.ntmps135
  go_wp2_with (first | (go_at_call 86; with_reducible refine (drd_w x x0 x1 _).mono ?_; rintro e' w1 ⟨rfl, rfl⟩) | (go_at_call 87; with_reducible refine (drs1_w x x0 x1 _).mono ?_; rintro e' w1 ⟨rfl, rfl⟩) | (go_at_call 90; with_reducible refine (drs2_w x x0 x1 _).mono ?_; rintro e' w1 ⟨rfl, rfl⟩; (try rw [h2])) | (go_at_call 138; with_reducible refine (df7_w x x0 x1 _).mono ?_; rintro e' w1 ⟨rfl, rfl⟩; (try rw [h])))
  go_step3
  go_wp2_with (first | (go_at_call 86; with_reducible refine (drd_w x x0 x1 _).mono ?_; rintro e' w1 ⟨rfl, rfl⟩) | (go_at_call 87; with_reducible refine (drs1_w x x0 x1 _).mono ?_; rintro e' w1 ⟨rfl, rfl⟩) | (go_at_call 90; with_reducible refine (drs2_w x x0 x1 _).mono ?_; rintro e' w1 ⟨rfl, rfl⟩; (try rw [h2])) | (go_at_call 138; with_reducible refine (df7_w x x0 x1 _).mono ?_; rintro e' w1 ⟨rfl, rfl⟩; (try rw [h])))
  go_step3
  go_wp2_with (first | (go_at_call 86; with_reducible refine (drd_w x x0 x1 _).mono ?_; rintro e' w1 ⟨rfl, rfl⟩) | (go_at_call 87; with_reducible refine (drs1_w x x0 x1 _).mono ?_; rintro e' w1 ⟨rfl, rfl⟩) | (go_at_call 90; with_reducible refine (drs2_w x x0 x1 _).mono ?_; rintro e' w1 ⟨rfl, rfl⟩; (try rw [h2])) | (go_at_call 138; with_reducible refine (df7_w x x0 x1 _).mono ?_; rintro e' w1 ⟨rfl, rfl⟩; (try rw [h])))
  try rw [Exit.noGoto_ret]
  refine bodyPost_ret (v := .tuple #[Ins.v ⟨23, 11, (fl x 128 32), (fl x 32768 32), 0, 0, 0, false, false⟩ 0 0, .bool (true)]) (by simp [results, Tryz.results135, go_sem, Ins.v, *]) rfl ⟨RdP.mk ⟨23, 11, (fl x 128 32), (fl x 32768 32), 0, 0, 0, false, false⟩ (true) rfl (by simp [dsReg, dsOne, h, h2, twoB, getB]), by (repeat' (first | with_reducible refine Kp.setCell ?_ ?_ _ | with_reducible refine Kp.allocs ?_ _ _ | with_reducible refine Kp.drew ?_ | with_reducible refine Kp.drewN ?_ _)); all_goals first | exact Kp.refl w | (dsimp only; omega)⟩
set_option maxHeartbeats 4000000 in
theorem dget_15 (x : Int) (x0 : 0 ≤ x) (x1 : x < 4294967296) (h : fl x 33554432 128 = 127) (h2 : fl x 1048576 32 = 15) (w : World) :
    Calls Tryz.prog 135 #[.int .u32 x] w fun e w' => RdP e (dsReg x) ∧ Kp w w' := by
  have brd := fl_bd x 128 32 (by omega)
  have bf3 := fl_bd x 4096 8 (by omega)
  have br1 := fl_bd x 32768 32 (by omega)
  have br2 := fl_bd x 1048576 32 (by omega)
  have bf7 := fl_bd x 33554432 128 (by omega)
  go_enter Tryz.func135, Tryz.ntmps135
  go_wp2_with (first | (go_at_call 86; with_reducible refine (drd_w x x0 x1 _).mono ?_; rintro e' w1 ⟨rfl, rfl⟩) | (go_at_call 87; with_reducible refine (drs1_w x x0 x1 _).mono ?_; rintro e' w1 ⟨rfl, rfl⟩) | (go_at_call 90; with_reducible refine (drs2_w x x0 x1 _).mono ?_; rintro e' w1 ⟨rfl, rfl⟩; (try rw [h2])) | (go_at_call 138; with_reducible refine (df7_w x x0 x1 _).mono ?_; rintro e' w1 ⟨rfl, rfl⟩; (try rw [h])))
  go_step3
  go_wp2_with (first | (go_at_call 86; with_reducible refine (drd_w x x0 x1 _).mono ?_; rintro e' w1 ⟨rfl, rfl⟩) | (go_at_call 87; with_reducible refine (drs1_w x x0 x1 _).mono ?_; rintro e' w1 ⟨rfl, rfl⟩) | (go_at_call 90; with_reducible refine (drs2_w x x0 x1 _).mono ?_; rintro e' w1 ⟨rfl, rfl⟩; (try rw [h2])) | (go_at_call 138; with_reducible refine (df7_w x x0 x1 _).mono ?_; rintro e' w1 ⟨rfl, rfl⟩; (try rw [h])))
  go_step3
  go_wp2_with (first | (go_at_call 86; with_reducible refine (drd_w x x0 x1 _).mono ?_; rintro e' w1 ⟨rfl, rfl⟩) | (go_at_call 87; with_reducible refine (drs1_w x x0 x1 _).mono ?_; rintro e' w1 ⟨rfl, rfl⟩) | (go_at_call 90; with_reducible refine (drs2_w x x0 x1 _).mono ?_; rintro e' w1 ⟨rfl, rfl⟩; (try rw [h2])) | (go_at_call 138; with_reducible refine (df7_w x x0 x1 _).mono ?_; rintro e' w1 ⟨rfl, rfl⟩; (try rw [h])))
  try rw [Exit.noGoto_ret]
  refine bodyPost_ret (v := .tuple #[Ins.v ⟨23, 15, (fl x 128 32), (fl x 32768 32), 0, 0, 0, false, false⟩ 0 0, .bool (true)]) (by simp [results, Tryz.results135, go_sem, Ins.v, *]) rfl ⟨RdP.mk ⟨23, 15, (fl x 128 32), (fl x 32768 32), 0, 0, 0, false, false⟩ (true) rfl (by simp [dsReg, dsOne, h, h2, twoB, getB]), by (repeat' (first | with_reducible refine Kp.setCell ?_ ?_ _ | with_reducible refine Kp.allocs ?_ _ _ | with_reducible refine Kp.drew ?_ | with_reducible refine Kp.drewN ?_ _)); all_goals first | exact Kp.refl w | (dsimp only; omega)⟩
set_option maxHeartbeats 4000000 in
theorem dget_17 (x : Int) (x0 : 0 ≤ x) (x1 : x < 4294967296) (h : fl x 33554432 128 = 127) (h2 : fl x 1048576 32 = 17) (w : World) :
    Calls Tryz.prog 135 #[.int .u32 x] w fun e w' => RdP e (dsReg x) ∧ Kp w w' := by
  have brd := fl_bd x 128 32 (by omega)
  have bf3 := fl_bd x 4096 8 (by omega)
  have br1 := fl_bd x 32768 32 (by omega)
  have br2 := fl_bd x 1048576 32 (by omega)
  have bf7 := fl_bd x 33554432 128 (by omega)
  go_enter Tryz.func135, Tryz.ntmps135
  go_wp2_with (first | (go_at_call 86; with_reducible refine (drd_w x x0 x1 _).mono ?_; rintro e' w1 ⟨rfl, rfl⟩) | (go_at_call 87; with_reducible refine (drs1_w x x0 x1 _).mono ?_; rintro e' w1 ⟨rfl, rfl⟩) | (go_at_call 90; with_reducible refine (drs2_w x x0 x1 _).mono ?_; rintro e' w1 ⟨rfl, rfl⟩; (try rw [h2])) | (go_at_call 138; with_reducible refine (df7_w x x0 x1 _).mono ?_; rintro e' w1 ⟨rfl, rfl⟩; (try rw [h])))
  go_step3
  go_wp2_with (first | (go_at_call 86; with_reducible refine (drd_w x x0 x1 _).mono ?_; rintro e' w1 ⟨rfl, rfl⟩) | (go_at_call 87; with_reducible refine (drs1_w x x0 x1 _).mono ?_; rintro e' w1 ⟨rfl, rfl⟩) | (go_at_call 90; with_reducible refine (drs2_w x x0 x1 _).mono ?_; rintro e' w1 ⟨rfl, rfl⟩; (try rw [h2])) | (go_at_call 138; with_reducible refine (df7_w x x0 x1 _).mono ?_; rintro e' w1 ⟨rfl, rfl⟩; (try rw [h])))
  go_step3
  go_wp2_with (first | (go_at_call 86; with_reducible refine (drd_w x x0 x1 _).mono ?_; rintro e' w1 ⟨rfl, rfl⟩) | (go_at_call 87; with_reducible refine (drs1_w x x0 x1 _).mono ?_; rintro e' w1 ⟨rfl, rfl⟩) | (go_at_call 90; with_reducible refine (drs2_w x x0 x1 _).mono ?_; rintro e' w1 ⟨rfl, rfl⟩; (try rw [h2])) | (go_at_call 138; with_reducible refine (df7_w x x0 x1 _).mono ?_; rintro e' w1 ⟨rfl, rfl⟩; (try rw [h])))
  try rw [Exit.noGoto_ret]
  refine bodyPost_ret (v := .tuple #[Ins.v ⟨23, 17, (fl x 128 32), (fl x 32768 32), 0, 0, 0, false, false⟩ 0 0, .bool (true)]) (by simp [results, Tryz.results135, go_sem, Ins.v, *]) rfl ⟨RdP.mk ⟨23, 17, (fl x 128 32), (fl x 32768 32), 0, 0, 0, false, false⟩ (true) rfl (by simp [dsReg, dsOne, h, h2, twoB, getB]), by (repeat' (first | with_reducible refine Kp.setCell ?_ ?_ _ | with_reducible refine Kp.allocs ?_ _ _ | with_reducible refine Kp.drew ?_ | with_reducible refine Kp.drewN ?_ _)); all_goals first | exact Kp.refl w | (dsimp only; omega)⟩
set_option maxHeartbeats 4000000 in
theorem dget_24 (x : Int) (x0 : 0 ≤ x) (x1 : x < 4294967296) (h : fl x 33554432 128 = 127) (h2 : fl x 1048576 32 = 24) (w : World) :
    Calls Tryz.prog 135 #[.int .u32 x] w fun e w' => RdP e (dsReg x) ∧ Kp w w' := by
  have brd := fl_bd x 128 32 (by omega)
  have bf3 := fl_bd x 4096 8 (by omega)
  have br1 := fl_bd x 32768 32 (by omega)
  have br2 := fl_bd x 1048576 32 (by omega)
  have bf7 := fl_bd x 33554432 128 (by omega)
  go_enter Tryz.func135, Tryz.ntmps135
  go_wp2_with (first | (go_at_call 86; with_reducible refine (drd_w x x0 x1 _).mono ?_; rintro e' w1 ⟨rfl, rfl⟩) | (go_at_call 87; with_reducible refine (drs1_w x x0 x1 _).mono ?_; rintro e' w1 ⟨rfl, rfl⟩) | (go_at_call 90; with_reducible refine (drs2_w x x0 x1 _).mono ?_; rintro e' w1 ⟨rfl, rfl⟩; (try rw [h2])) | (go_at_call 138; with_reducible refine (df7_w x x0 x1 _).mono ?_; rintro e' w1 ⟨rfl, rfl⟩; (try rw [h])))
  go_step3
  go_wp2_with (first | (go_at_call 86; with_reducible refine (drd_w x x0 x1 _).mono ?_; rintro e' w1 ⟨rfl, rfl⟩) | (go_at_call 87; with_reducible refine (drs1_w x x0 x1 _).mono ?_; rintro e' w1 ⟨rfl, rfl⟩) | (go_at_call 90; with_reducible refine (drs2_w x x0 x1 _).mono ?_; rintro e' w1 ⟨rfl, rfl⟩; (try rw [h2])) | (go_at_call 138; with_reducible refine (df7_w x x0 x1 _).mono ?_; rintro e' w1 ⟨rfl, rfl⟩; (try rw [h])))
  go_step3
  go_wp2_with (first | (go_at_call 86; with_reducible refine (drd_w x x0 x1 _).mono ?_; rintro e' w1 ⟨rfl, rfl⟩) | (go_at_call 87; with_reducible refine (drs1_w x x0 x1 _).mono ?_; rintro e' w1 ⟨rfl, rfl⟩) | (go_at_call 90; with_reducible refine (drs2_w x x0 x1 _).mono ?_; rintro e' w1 ⟨rfl, rfl⟩; (try rw [h2])) | (go_at_call 138; with_reducible refine (df7_w x x0 x1 _).mono ?_; rintro e' w1 ⟨rfl, rfl⟩; (try rw [h])))
  try rw [Exit.noGoto_ret]
  refine bodyPost_ret (v := .tuple #[Ins.v ⟨23, 24, (fl x 128 32), (fl x 32768 32), 0, 0, 0, false, false⟩ 0 0, .bool (true)]) (by simp [results, Tryz.results135, go_sem, Ins.v, *]) rfl ⟨RdP.mk ⟨23, 24, (fl x 128 32), (fl x 32768 32), 0, 0, 0, false, false⟩ (true) rfl (by simp [dsReg, dsOne, h, h2, twoB, getB]), by (repeat' (first | with_reducible refine Kp.setCell ?_ ?_ _ | with_reducible refine Kp.allocs ?_ _ _ | with_reducible refine Kp.drew ?_ | with_reducible refine Kp.drewN ?_ _)); all_goals first | exact Kp.refl w | (dsimp only; omega)⟩
set_option maxHeartbeats 4000000 in
theorem dget_12 (x : Int) (x0 : 0 ≤ x) (x1 : x < 4294967296) (h : fl x 33554432 128 = 127) (h2 : fl x 1048576 32 = 12) (w : World) :
    Calls Tryz.prog 135 #[.int .u32 x] w fun e w' => RdP e (dsReg x) ∧ Kp w w' := by
  have brd := fl_bd x 128 32 (by omega)
  have bf3 := fl_bd x 4096 8 (by omega)
  have br1 := fl_bd x 32768 32 (by omega)
  have br2 := fl_bd x 1048576 32 (by omega)
  have bf7 := fl_bd x 33554432 128 (by omega)
  go_enter Tryz.func135, Tryz.ntmps135
  go_wp2_with (first | (go_at_call 86; with_reducible refine (drd_w x x0 x1 _).mono ?_; rintro e' w1 ⟨rfl, rfl⟩) | (go_at_call 87; with_reducible refine (drs1_w x x0 x1 _).mono ?_; rintro e' w1 ⟨rfl, rfl⟩) | (go_at_call 90; with_reducible refine (drs2_w x x0 x1 _).mono ?_; rintro e' w1 ⟨rfl, rfl⟩; (try rw [h2])) | (go_at_call 138; with_reducible refine (df7_w x x0 x1 _).mono ?_; rintro e' w1 ⟨rfl, rfl⟩; (try rw [h])))
  go_step3
  go_wp2_with (first | (go_at_call 86; with_reducible refine (drd_w x x0 x1 _).mono ?_; rintro e' w1 ⟨rfl, rfl⟩) | (go_at_call 87; with_reducible refine (drs1_w x x0 x1 _).mono ?_; rintro e' w1 ⟨rfl, rfl⟩) | (go_at_call 90; with_reducible refine (drs2_w x x0 x1 _).mono ?_; rintro e' w1 ⟨rfl, rfl⟩; (try rw [h2])) | (go_at_call 138; with_reducible refine (df7_w x x0 x1 _).mono ?_; rintro e' w1 ⟨rfl, rfl⟩; (try rw [h])))
  go_step3
  go_wp2_with (first | (go_at_call 86; with_reducible refine (drd_w x x0 x1 _).mono ?_; rintro e' w1 ⟨rfl, rfl⟩) | (go_at_call 87; with_reducible refine (drs1_w x x0 x1 _).mono ?_; rintro e' w1 ⟨rfl, rfl⟩) | (go_at_call 90; with_reducible refine (drs2_w x x0 x1 _).mono ?_; rintro e' w1 ⟨rfl, rfl⟩; (try rw [h2])) | (go_at_call 138; with_reducible refine (df7_w x x0 x1 _).mono ?_; rintro e' w1 ⟨rfl, rfl⟩; (try rw [h])))
  try rw [Exit.noGoto_ret]
  refine bodyPost_ret (v := .tuple #[Ins.v ⟨26, 0, (fl x 128 32), (fl x 32768 32), 0, 0, 0, false, false⟩ 0 0, .bool (true)]) (by simp [results, Tryz.results135, go_sem, Ins.v, *]) rfl ⟨RdP.mk ⟨26, 0, (fl x 128 32), (fl x 32768 32), 0, 0, 0, false, false⟩ (true) rfl (by simp [dsReg, dsOne, h, h2, twoB, getB]), by (repeat' (first | with_reducible refine Kp.setCell ?_ ?_ _ | with_reducible refine Kp.allocs ?_ _ _ | with_reducible refine Kp.drew ?_ | with_reducible refine Kp.drewN ?_ _)); all_goals first | exact Kp.refl w | (dsimp only; omega)⟩
set_option maxHeartbeats 4000000 in
theorem dget_n (x : Int) (x0 : 0 ≤ x) (x1 : x < 4294967296) (h : fl x 33554432 128 = 127) (h2 : getB (fl x 1048576 32) = false) (h3 : ¬ fl x 1048576 32 = 12) (w : World) :
    Calls Tryz.prog 135 #[.int .u32 x] w fun e w' => RdP e (dsReg x) ∧ Kp w w' := by
  have brd := fl_bd x 128 32 (by omega)
  have bf3 := fl_bd x 4096 8 (by omega)
  have br1 := fl_bd x 32768 32 (by omega)
  have br2 := fl_bd x 1048576 32 (by omega)
  have bf7 := fl_bd x 33554432 128 (by omega)
  have hs : dsReg x = none := by simp [dsReg, dsOne, h, h2, h3, twoB]
  simp only [getB, Bool.or_eq_false_iff, decide_eq_false_iff_not, beq_eq_false_iff_ne] at h2
  obtain ⟨⟨⟨g1, g2⟩, g3⟩, g4⟩ := h2
  have t0 : (fl x 1048576 32 == 0) = false := by simp; omega
  have t1 : (fl x 1048576 32 == 1) = false := by simp; omega
  have t2 : (fl x 1048576 32 == 2) = false := by simp; omega
  have t3 : (fl x 1048576 32 == 3) = false := by simp; omega
  have t4 : (fl x 1048576 32 == 4) = false := by simp; omega
  have t5 : (fl x 1048576 32 == 5) = false := by simp; omega
  have t6 : (fl x 1048576 32 == 6) = false := by simp; omega
  have t7 : (fl x 1048576 32 == 7) = false := by simp; omega
  have t8 : (fl x 1048576 32 == 8) = false := by simp; omega
  have t9 : (fl x 1048576 32 == 9) = false := by simp; omega
  have t10 : (fl x 1048576 32 == 10) = false := by simp; omega
  have t11 : (fl x 1048576 32 == 11) = false := by simp; omega
  have t15 : (fl x 1048576 32 == 15) = false := by simp; omega
  have t17 : (fl x 1048576 32 == 17) = false := by simp; omega
  have t24 : (fl x 1048576 32 == 24) = false := by simp; omega
  have t12 : (fl x 1048576 32 == 12) = false := by simp; omega
  have H1 := Lib.hid g1
  have H2 := Lib.hid h3
  clear g1 g2 g3 g4 h3
  go_enter Tryz.func135, Tryz.ntmps135
  go_wp2_with (first | (go_at_call 86; with_reducible refine (drd_w x x0 x1 _).mono ?_; rintro e' w1 ⟨rfl, rfl⟩) | (go_at_call 87; with_reducible refine (drs1_w x x0 x1 _).mono ?_; rintro e' w1 ⟨rfl, rfl⟩) | (go_at_call 90; with_reducible refine (drs2_w x x0 x1 _).mono ?_; rintro e' w1 ⟨rfl, rfl⟩) | (go_at_call 138; with_reducible refine (df7_w x x0 x1 _).mono ?_; rintro e' w1 ⟨rfl, rfl⟩; (try rw [h])))
  go_step3
  go_wp2_with (first | (go_at_call 86; with_reducible refine (drd_w x x0 x1 _).mono ?_; rintro e' w1 ⟨rfl, rfl⟩) | (go_at_call 87; with_reducible refine (drs1_w x x0 x1 _).mono ?_; rintro e' w1 ⟨rfl, rfl⟩) | (go_at_call 90; with_reducible refine (drs2_w x x0 x1 _).mono ?_; rintro e' w1 ⟨rfl, rfl⟩) | (go_at_call 138; with_reducible refine (df7_w x x0 x1 _).mono ?_; rintro e' w1 ⟨rfl, rfl⟩; (try rw [h])))
  go_step3
  go_wp2_with (first | (go_at_call 86; with_reducible refine (drd_w x x0 x1 _).mono ?_; rintro e' w1 ⟨rfl, rfl⟩) | (go_at_call 87; with_reducible refine (drs1_w x x0 x1 _).mono ?_; rintro e' w1 ⟨rfl, rfl⟩) | (go_at_call 90; with_reducible refine (drs2_w x x0 x1 _).mono ?_; rintro e' w1 ⟨rfl, rfl⟩) | (go_at_call 138; with_reducible refine (df7_w x x0 x1 _).mono ?_; rintro e' w1 ⟨rfl, rfl⟩; (try rw [h])))
  try rw [Exit.noGoto_ret]
  refine bodyPost_ret (v := .tuple #[Ins.v zIns 0 0, .bool (false)]) (by simp [results, Tryz.results135, go_sem, Ins.v, zIns, *]) rfl ⟨RdP.mk zIns (false) rfl (hs), by (repeat' (first | with_reducible refine Kp.setCell ?_ ?_ _ | with_reducible refine Kp.allocs ?_ _ _ | with_reducible refine Kp.drew ?_ | with_reducible refine Kp.drewN ?_ _)); all_goals first | exact Kp.refl w | (dsimp only; omega)⟩
end Go.Proofs.YtlfeandnpflaaaaGreatDoor
