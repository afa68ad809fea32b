/-
  Contract of capdec's reader of registers: what is asked of one, the first ways. No condition.
-/
import Derived.Test.YtlfeandnpflaaaaDoorDFld
import Derived.WalkMore
namespace Go.Proofs.YtlfeandnpflaaaaDoor
open Go.ChangeShapes Go.WideShapes Go.ChangeAt Go.RowKit
set_option linter.unusedVariables false
set_option linter.unusedSimpArgs false

set_option maxHeartbeats 4000000 in
theorem dget_0 (x : Int) (x0 : 0 ≤ x) (x1 : x < 4294967296) (h : fl x 33554432 128 = 127) (h2 : fl x 1048576 32 = 0) (w : World) :
    Calls Tryd.prog 94 #[.int .u32 x] w fun e w' => RdP e (dsReg x) ∧ Kp w w' := by
  have brd := fl_bd x 128 32 (by omega)
  have bf3 := fl_bd x 4096 8 (by omega)
  have br1 := fl_bd x 32768 32 (by omega)
  have br2 := fl_bd x 1048576 32 (by omega)
  have bf7 := fl_bd x 33554432 128 (by omega)
  go_enter Tryd.func94, Tryd.ntmps94
  go_wp2_with (first | (go_at_call 51; with_reducible refine (drd_w x x0 x1 _).mono ?_; rintro e' w1 ⟨rfl, rfl⟩) | (go_at_call 52; with_reducible refine (drs1_w x x0 x1 _).mono ?_; rintro e' w1 ⟨rfl, rfl⟩) | (go_at_call 55; with_reducible refine (drs2_w x x0 x1 _).mono ?_; rintro e' w1 ⟨rfl, rfl⟩; (try rw [h2])) | (go_at_call 97; with_reducible refine (df7_w x x0 x1 _).mono ?_; rintro e' w1 ⟨rfl, rfl⟩; (try rw [h])))
  go_step3
  go_wp2_with (first | (go_at_call 51; with_reducible refine (drd_w x x0 x1 _).mono ?_; rintro e' w1 ⟨rfl, rfl⟩) | (go_at_call 52; with_reducible refine (drs1_w x x0 x1 _).mono ?_; rintro e' w1 ⟨rfl, rfl⟩) | (go_at_call 55; with_reducible refine (drs2_w x x0 x1 _).mono ?_; rintro e' w1 ⟨rfl, rfl⟩; (try rw [h2])) | (go_at_call 97; with_reducible refine (df7_w x x0 x1 _).mono ?_; rintro e' w1 ⟨rfl, rfl⟩; (try rw [h])))
  go_step3
  go_wp2_with (first | (go_at_call 51; with_reducible refine (drd_w x x0 x1 _).mono ?_; rintro e' w1 ⟨rfl, rfl⟩) | (go_at_call 52; with_reducible refine (drs1_w x x0 x1 _).mono ?_; rintro e' w1 ⟨rfl, rfl⟩) | (go_at_call 55; with_reducible refine (drs2_w x x0 x1 _).mono ?_; rintro e' w1 ⟨rfl, rfl⟩; (try rw [h2])) | (go_at_call 97; with_reducible refine (df7_w x x0 x1 _).mono ?_; rintro e' w1 ⟨rfl, rfl⟩; (try rw [h])))
  try rw [Exit.noGoto_ret]
  refine bodyPost_ret (v := .tuple #[Ins.v ⟨23, 0, (fl x 128 32), (fl x 32768 32), 0, 0, 0, false, false⟩ 0 0, .bool (true)]) (by simp [results, Tryd.results94, go_sem, Ins.v, *]) rfl ⟨RdP.mk ⟨23, 0, (fl x 128 32), (fl x 32768 32), 0, 0, 0, false, false⟩ (true) rfl (by simp [dsReg, dsOne, h, h2, twoB, getB]), by (repeat' (first | with_reducible refine Kp.setCell ?_ ?_ _ | with_reducible refine Kp.allocs ?_ _ _ | with_reducible refine Kp.drew ?_ | with_reducible refine Kp.drewN ?_ _)); all_goals first | exact Kp.refl w | (dsimp only; omega)⟩
set_option maxHeartbeats 4000000 in
theorem dget_1 (x : Int) (x0 : 0 ≤ x) (x1 : x < 4294967296) (h : fl x 33554432 128 = 127) (h2 : fl x 1048576 32 = 1) (w : World) :
    Calls Tryd.prog 94 #[.int .u32 x] w fun e w' => RdP e (dsReg x) ∧ Kp w w' := by
  have brd := fl_bd x 128 32 (by omega)
  have bf3 := fl_bd x 4096 8 (by omega)
  have br1 := fl_bd x 32768 32 (by omega)
  have br2 := fl_bd x 1048576 32 (by omega)
  have bf7 := fl_bd x 33554432 128 (by omega)
  go_enter Tryd.func94, Tryd.ntmps94
  go_wp2_with (first | (go_at_call 51; with_reducible refine (drd_w x x0 x1 _).mono ?_; rintro e' w1 ⟨rfl, rfl⟩) | (go_at_call 52; with_reducible refine (drs1_w x x0 x1 _).mono ?_; rintro e' w1 ⟨rfl, rfl⟩) | (go_at_call 55; with_reducible refine (drs2_w x x0 x1 _).mono ?_; rintro e' w1 ⟨rfl, rfl⟩; (try rw [h2])) | (go_at_call 97; with_reducible refine (df7_w x x0 x1 _).mono ?_; rintro e' w1 ⟨rfl, rfl⟩; (try rw [h])))
  go_step3
  go_wp2_with (first | (go_at_call 51; with_reducible refine (drd_w x x0 x1 _).mono ?_; rintro e' w1 ⟨rfl, rfl⟩) | (go_at_call 52; with_reducible refine (drs1_w x x0 x1 _).mono ?_; rintro e' w1 ⟨rfl, rfl⟩) | (go_at_call 55; with_reducible refine (drs2_w x x0 x1 _).mono ?_; rintro e' w1 ⟨rfl, rfl⟩; (try rw [h2])) | (go_at_call 97; with_reducible refine (df7_w x x0 x1 _).mono ?_; rintro e' w1 ⟨rfl, rfl⟩; (try rw [h])))
  go_step3
  go_wp2_with (first | (go_at_call 51; with_reducible refine (drd_w x x0 x1 _).mono ?_; rintro e' w1 ⟨rfl, rfl⟩) | (go_at_call 52; with_reducible refine (drs1_w x x0 x1 _).mono ?_; rintro e' w1 ⟨rfl, rfl⟩) | (go_at_call 55; with_reducible refine (drs2_w x x0 x1 _).mono ?_; rintro e' w1 ⟨rfl, rfl⟩; (try rw [h2])) | (go_at_call 97; with_reducible refine (df7_w x x0 x1 _).mono ?_; rintro e' w1 ⟨rfl, rfl⟩; (try rw [h])))
  try rw [Exit.noGoto_ret]
  refine bodyPost_ret (v := .tuple #[Ins.v ⟨23, 1, (fl x 128 32), (fl x 32768 32), 0, 0, 0, false, false⟩ 0 0, .bool (true)]) (by simp [results, Tryd.results94, go_sem, Ins.v, *]) rfl ⟨RdP.mk ⟨23, 1, (fl x 128 32), (fl x 32768 32), 0, 0, 0, false, false⟩ (true) rfl (by simp [dsReg, dsOne, h, h2, twoB, getB]), by (repeat' (first | with_reducible refine Kp.setCell ?_ ?_ _ | with_reducible refine Kp.allocs ?_ _ _ | with_reducible refine Kp.drew ?_ | with_reducible refine Kp.drewN ?_ _)); all_goals first | exact Kp.refl w | (dsimp only; omega)⟩
set_option maxHeartbeats 4000000 in
theorem dget_2 (x : Int) (x0 : 0 ≤ x) (x1 : x < 4294967296) (h : fl x 33554432 128 = 127) (h2 : fl x 1048576 32 = 2) (w : World) :
    Calls Tryd.prog 94 #[.int .u32 x] w fun e w' => RdP e (dsReg x) ∧ Kp w w' := by
  have brd := fl_bd x 128 32 (by omega)
  have bf3 := fl_bd x 4096 8 (by omega)
  have br1 := fl_bd x 32768 32 (by omega)
  have br2 := fl_bd x 1048576 32 (by omega)
  have bf7 := fl_bd x 33554432 128 (by omega)
  go_enter Tryd.func94, Tryd.ntmps94
  go_wp2_with (first | (go_at_call 51; with_reducible refine (drd_w x x0 x1 _).mono ?_; rintro e' w1 ⟨rfl, rfl⟩) | (go_at_call 52; with_reducible refine (drs1_w x x0 x1 _).mono ?_; rintro e' w1 ⟨rfl, rfl⟩) | (go_at_call 55; with_reducible refine (drs2_w x x0 x1 _).mono ?_; rintro e' w1 ⟨rfl, rfl⟩; (try rw [h2])) | (go_at_call 97; with_reducible refine (df7_w x x0 x1 _).mono ?_; rintro e' w1 ⟨rfl, rfl⟩; (try rw [h])))
  go_step3
  go_wp2_with (first | (go_at_call 51; with_reducible refine (drd_w x x0 x1 _).mono ?_; rintro e' w1 ⟨rfl, rfl⟩) | (go_at_call 52; with_reducible refine (drs1_w x x0 x1 _).mono ?_; rintro e' w1 ⟨rfl, rfl⟩) | (go_at_call 55; with_reducible refine (drs2_w x x0 x1 _).mono ?_; rintro e' w1 ⟨rfl, rfl⟩; (try rw [h2])) | (go_at_call 97; with_reducible refine (df7_w x x0 x1 _).mono ?_; rintro e' w1 ⟨rfl, rfl⟩; (try rw [h])))
  go_step3
  go_wp2_with (first | (go_at_call 51; with_reducible refine (drd_w x x0 x1 _).mono ?_; rintro e' w1 ⟨rfl, rfl⟩) | (go_at_call 52; with_reducible refine (drs1_w x x0 x1 _).mono ?_; rintro e' w1 ⟨rfl, rfl⟩) | (go_at_call 55; with_reducible refine (drs2_w x x0 x1 _).mono ?_; rintro e' w1 ⟨rfl, rfl⟩; (try rw [h2])) | (go_at_call 97; with_reducible refine (df7_w x x0 x1 _).mono ?_; rintro e' w1 ⟨rfl, rfl⟩; (try rw [h])))
  try rw [Exit.noGoto_ret]
  refine bodyPost_ret (v := .tuple #[Ins.v ⟨23, 2, (fl x 128 32), (fl x 32768 32), 0, 0, 0, false, false⟩ 0 0, .bool (true)]) (by simp [results, Tryd.results94, go_sem, Ins.v, *]) rfl ⟨RdP.mk ⟨23, 2, (fl x 128 32), (fl x 32768 32), 0, 0, 0, false, false⟩ (true) rfl (by simp [dsReg, dsOne, h, h2, twoB, getB]), by (repeat' (first | with_reducible refine Kp.setCell ?_ ?_ _ | with_reducible refine Kp.allocs ?_ _ _ | with_reducible refine Kp.drew ?_ | with_reducible refine Kp.drewN ?_ _)); all_goals first | exact Kp.refl w | (dsimp only; omega)⟩
set_option maxHeartbeats 4000000 in
theorem dget_3 (x : Int) (x0 : 0 ≤ x) (x1 : x < 4294967296) (h : fl x 33554432 128 = 127) (h2 : fl x 1048576 32 = 3) (w : World) :
    Calls Tryd.prog 94 #[.int .u32 x] w fun e w' => RdP e (dsReg x) ∧ Kp w w' := by
  have brd := fl_bd x 128 32 (by omega)
  have bf3 := fl_bd x 4096 8 (by omega)
  have br1 := fl_bd x 32768 32 (by omega)
  have br2 := fl_bd x 1048576 32 (by omega)
  have bf7 := fl_bd x 33554432 128 (by omega)
  go_enter Tryd.func94, Tryd.ntmps94
  go_wp2_with (first | (go_at_call 51; with_reducible refine (drd_w x x0 x1 _).mono ?_; rintro e' w1 ⟨rfl, rfl⟩) | (go_at_call 52; with_reducible refine (drs1_w x x0 x1 _).mono ?_; rintro e' w1 ⟨rfl, rfl⟩) | (go_at_call 55; with_reducible refine (drs2_w x x0 x1 _).mono ?_; rintro e' w1 ⟨rfl, rfl⟩; (try rw [h2])) | (go_at_call 97; with_reducible refine (df7_w x x0 x1 _).mono ?_; rintro e' w1 ⟨rfl, rfl⟩; (try rw [h])))
  go_step3
  go_wp2_with (first | (go_at_call 51; with_reducible refine (drd_w x x0 x1 _).mono ?_; rintro e' w1 ⟨rfl, rfl⟩) | (go_at_call 52; with_reducible refine (drs1_w x x0 x1 _).mono ?_; rintro e' w1 ⟨rfl, rfl⟩) | (go_at_call 55; with_reducible refine (drs2_w x x0 x1 _).mono ?_; rintro e' w1 ⟨rfl, rfl⟩; (try rw [h2])) | (go_at_call 97; with_reducible refine (df7_w x x0 x1 _).mono ?_; rintro e' w1 ⟨rfl, rfl⟩; (try rw [h])))
  go_step3
  go_wp2_with (first | (go_at_call 51; with_reducible refine (drd_w x x0 x1 _).mono ?_; rintro e' w1 ⟨rfl, rfl⟩) | (go_at_call 52; with_reducible refine (drs1_w x x0 x1 _).mono ?_; rintro e' w1 ⟨rfl, rfl⟩) | (go_at_call 55; with_reducible refine (drs2_w x x0 x1 _).mono ?_; rintro e' w1 ⟨rfl, rfl⟩; (try rw [h2])) | (go_at_call 97; with_reducible refine (df7_w x x0 x1 _).mono ?_; rintro e' w1 ⟨rfl, rfl⟩; (try rw [h])))
  try rw [Exit.noGoto_ret]
  refine bodyPost_ret (v := .tuple #[Ins.v ⟨23, 3, (fl x 128 32), (fl x 32768 32), 0, 0, 0, false, false⟩ 0 0, .bool (true)]) (by simp [results, Tryd.results94, go_sem, Ins.v, *]) rfl ⟨RdP.mk ⟨23, 3, (fl x 128 32), (fl x 32768 32), 0, 0, 0, false, false⟩ (true) rfl (by simp [dsReg, dsOne, h, h2, twoB, getB]), by (repeat' (first | with_reducible refine Kp.setCell ?_ ?_ _ | with_reducible refine Kp.allocs ?_ _ _ | with_reducible refine Kp.drew ?_ | with_reducible refine Kp.drewN ?_ _)); all_goals first | exact Kp.refl w | (dsimp only; omega)⟩
set_option maxHeartbeats 4000000 in
theorem dget_4 (x : Int) (x0 : 0 ≤ x) (x1 : x < 4294967296) (h : fl x 33554432 128 = 127) (h2 : fl x 1048576 32 = 4) (w : World) :
    Calls Tryd.prog 94 #[.int .u32 x] w fun e w' => RdP e (dsReg x) ∧ Kp w w' := by
  have brd := fl_bd x 128 32 (by omega)
  have bf3 := fl_bd x 4096 8 (by omega)
  have br1 := fl_bd x 32768 32 (by omega)
  have br2 := fl_bd x 1048576 32 (by omega)
  have bf7 := fl_bd x 33554432 128 (by omega)
  go_enter Tryd.func94, Tryd.ntmps94
  go_wp2_with (first | (go_at_call 51; with_reducible refine (drd_w x x0 x1 _).mono ?_; rintro e' w1 ⟨rfl, rfl⟩) | (go_at_call 52; with_reducible refine (drs1_w x x0 x1 _).mono ?_; rintro e' w1 ⟨rfl, rfl⟩) | (go_at_call 55; with_reducible refine (drs2_w x x0 x1 _).mono ?_; rintro e' w1 ⟨rfl, rfl⟩; (try rw [h2])) | (go_at_call 97; with_reducible refine (df7_w x x0 x1 _).mono ?_; rintro e' w1 ⟨rfl, rfl⟩; (try rw [h])))
  go_step3
  go_wp2_with (first | (go_at_call 51; with_reducible refine (drd_w x x0 x1 _).mono ?_; rintro e' w1 ⟨rfl, rfl⟩) | (go_at_call 52; with_reducible refine (drs1_w x x0 x1 _).mono ?_; rintro e' w1 ⟨rfl, rfl⟩) | (go_at_call 55; with_reducible refine (drs2_w x x0 x1 _).mono ?_; rintro e' w1 ⟨rfl, rfl⟩; (try rw [h2])) | (go_at_call 97; with_reducible refine (df7_w x x0 x1 _).mono ?_; rintro e' w1 ⟨rfl, rfl⟩; (try rw [h])))
  go_step3
  go_wp2_with (first | (go_at_call 51; with_reducible refine (drd_w x x0 x1 _).mono ?_; rintro e' w1 ⟨rfl, rfl⟩) | (go_at_call 52; with_reducible refine (drs1_w x x0 x1 _).mono ?_; rintro e' w1 ⟨rfl, rfl⟩) | (go_at_call 55; with_reducible refine (drs2_w x x0 x1 _).mono ?_; rintro e' w1 ⟨rfl, rfl⟩; (try rw [h2])) | (go_at_call 97; with_reducible refine (df7_w x x0 x1 _).mono ?_; rintro e' w1 ⟨rfl, rfl⟩; (try rw [h])))
  try rw [Exit.noGoto_ret]
  refine bodyPost_ret (v := .tuple #[Ins.v ⟨23, 4, (fl x 128 32), (fl x 32768 32), 0, 0, 0, false, false⟩ 0 0, .bool (true)]) (by simp [results, Tryd.results94, go_sem, Ins.v, *]) rfl ⟨RdP.mk ⟨23, 4, (fl x 128 32), (fl x 32768 32), 0, 0, 0, false, false⟩ (true) rfl (by simp [dsReg, dsOne, h, h2, twoB, getB]), by (repeat' (first | with_reducible refine Kp.setCell ?_ ?_ _ | with_reducible refine Kp.allocs ?_ _ _ | with_reducible refine Kp.drew ?_ | with_reducible refine Kp.drewN ?_ _)); all_goals first | exact Kp.refl w | (dsimp only; omega)⟩
set_option maxHeartbeats 4000000 in
theorem dget_5 (x : Int) (x0 : 0 ≤ x) (x1 : x < 4294967296) (h : fl x 33554432 128 = 127) (h2 : fl x 1048576 32 = 5) (w : World) :
    Calls Tryd.prog 94 #[.int .u32 x] w fun e w' => RdP e (dsReg x) ∧ Kp w w' := by
  have brd := fl_bd x 128 32 (by omega)
  have bf3 := fl_bd x 4096 8 (by omega)
  have br1 := fl_bd x 32768 32 (by omega)
  have br2 := fl_bd x 1048576 32 (by omega)
  have bf7 := fl_bd x 33554432 128 (by omega)
  go_enter Tryd.func94, Tryd.ntmps94
  go_wp2_with (first | (go_at_call 51; with_reducible refine (drd_w x x0 x1 _).mono ?_; rintro e' w1 ⟨rfl, rfl⟩) | (go_at_call 52; with_reducible refine (drs1_w x x0 x1 _).mono ?_; rintro e' w1 ⟨rfl, rfl⟩) | (go_at_call 55; with_reducible refine (drs2_w x x0 x1 _).mono ?_; rintro e' w1 ⟨rfl, rfl⟩; (try rw [h2])) | (go_at_call 97; with_reducible refine (df7_w x x0 x1 _).mono ?_; rintro e' w1 ⟨rfl, rfl⟩; (try rw [h])))
  go_step3
  go_wp2_with (first | (go_at_call 51; with_reducible refine (drd_w x x0 x1 _).mono ?_; rintro e' w1 ⟨rfl, rfl⟩) | (go_at_call 52; with_reducible refine (drs1_w x x0 x1 _).mono ?_; rintro e' w1 ⟨rfl, rfl⟩) | (go_at_call 55; with_reducible refine (drs2_w x x0 x1 _).mono ?_; rintro e' w1 ⟨rfl, rfl⟩; (try rw [h2])) | (go_at_call 97; with_reducible refine (df7_w x x0 x1 _).mono ?_; rintro e' w1 ⟨rfl, rfl⟩; (try rw [h])))
  go_step3
  go_wp2_with (first | (go_at_call 51; with_reducible refine (drd_w x x0 x1 _).mono ?_; rintro e' w1 ⟨rfl, rfl⟩) | (go_at_call 52; with_reducible refine (drs1_w x x0 x1 _).mono ?_; rintro e' w1 ⟨rfl, rfl⟩) | (go_at_call 55; with_reducible refine (drs2_w x x0 x1 _).mono ?_; rintro e' w1 ⟨rfl, rfl⟩; (try rw [h2])) | (go_at_call 97; with_reducible refine (df7_w x x0 x1 _).mono ?_; rintro e' w1 ⟨rfl, rfl⟩; (try rw [h])))
  try rw [Exit.noGoto_ret]
  refine bodyPost_ret (v := .tuple #[Ins.v ⟨23, 5, (fl x 128 32), (fl x 32768 32), 0, 0, 0, false, false⟩ 0 0, .bool (true)]) (by simp [results, Tryd.results94, go_sem, Ins.v, *]) rfl ⟨RdP.mk ⟨23, 5, (fl x 128 32), (fl x 32768 32), 0, 0, 0, false, false⟩ (true) rfl (by simp [dsReg, dsOne, h, h2, twoB, getB]), by (repeat' (first | with_reducible refine Kp.setCell ?_ ?_ _ | with_reducible refine Kp.allocs ?_ _ _ | with_reducible refine Kp.drew ?_ | with_reducible refine Kp.drewN ?_ _)); all_goals first | exact Kp.refl w | (dsimp only; omega)⟩
set_option maxHeartbeats 4000000 in
theorem dget_6 (x : Int) (x0 : 0 ≤ x) (x1 : x < 4294967296) (h : fl x 33554432 128 = 127) (h2 : fl x 1048576 32 = 6) (w : World) :
    Calls Tryd.prog 94 #[.int .u32 x] w fun e w' => RdP e (dsReg x) ∧ Kp w w' := by
  have brd := fl_bd x 128 32 (by omega)
  have bf3 := fl_bd x 4096 8 (by omega)
  have br1 := fl_bd x 32768 32 (by omega)
  have br2 := fl_bd x 1048576 32 (by omega)
  have bf7 := fl_bd x 33554432 128 (by omega)
  go_enter Tryd.func94, Tryd.ntmps94
  go_wp2_with (first | (go_at_call 51; with_reducible refine (drd_w x x0 x1 _).mono ?_; rintro e' w1 ⟨rfl, rfl⟩) | (go_at_call 52; with_reducible refine (drs1_w x x0 x1 _).mono ?_; rintro e' w1 ⟨rfl, rfl⟩) | (go_at_call 55; with_reducible refine (drs2_w x x0 x1 _).mono ?_; rintro e' w1 ⟨rfl, rfl⟩; (try rw [h2])) | (go_at_call 97; with_reducible refine (df7_w x x0 x1 _).mono ?_; rintro e' w1 ⟨rfl, rfl⟩; (try rw [h])))
  go_step3
  go_wp2_with (first | (go_at_call 51; with_reducible refine (drd_w x x0 x1 _).mono ?_; rintro e' w1 ⟨rfl, rfl⟩) | (go_at_call 52; with_reducible refine (drs1_w x x0 x1 _).mono ?_; rintro e' w1 ⟨rfl, rfl⟩) | (go_at_call 55; with_reducible refine (drs2_w x x0 x1 _).mono ?_; rintro e' w1 ⟨rfl, rfl⟩; (try rw [h2])) | (go_at_call 97; with_reducible refine (df7_w x x0 x1 _).mono ?_; rintro e' w1 ⟨rfl, rfl⟩; (try rw [h])))
  go_step3
  go_wp2_with (first | (go_at_call 51; with_reducible refine (drd_w x x0 x1 _).mono ?_; rintro e' w1 ⟨rfl, rfl⟩) | (go_at_call 52; with_reducible refine (drs1_w x x0 x1 _).mono ?_; rintro e' w1 ⟨rfl, rfl⟩) | (go_at_call 55; with_reducible refine (drs2_w x x0 x1 _).mono ?_; rintro e' w1 ⟨rfl, rfl⟩; (try rw [h2])) | (go_at_call 97; with_reducible refine (df7_w x x0 x1 _).mono ?_; rintro e' w1 ⟨rfl, rfl⟩; (try rw [h])))
  try rw [Exit.noGoto_ret]
  refine bodyPost_ret (v := .tuple #[Ins.v ⟨23, 6, (fl x 128 32), (fl x 32768 32), 0, 0, 0, false, false⟩ 0 0, .bool (true)]) (by simp [results, Tryd.results94, go_sem, Ins.v, *]) rfl ⟨RdP.mk ⟨23, 6, (fl x 128 32), (fl x 32768 32), 0, 0, 0, false, false⟩ (true) rfl (by simp [dsReg, dsOne, h, h2, twoB, getB]), by (repeat' (first | with_reducible refine Kp.setCell ?_ ?_ _ | with_reducible refine Kp.allocs ?_ _ _ | with_reducible refine Kp.drew ?_ | with_reducible refine Kp.drewN ?_ _)); all_goals first | exact Kp.refl w | (dsimp only; omega)⟩
set_option maxHeartbeats 4000000 in
theorem dget_7 (x : Int) (x0 : 0 ≤ x) (x1 : x < 4294967296) (h : fl x 33554432 128 = 127) (h2 : fl x 1048576 32 = 7) (w : World) :
    Calls Tryd.prog 94 #[.int .u32 x] w fun e w' => RdP e (dsReg x) ∧ Kp w w' := by
  have brd := fl_bd x 128 32 (by omega)
  have bf3 := fl_bd x 4096 8 (by omega)
  have br1 := fl_bd x 32768 32 (by omega)
  have br2 := fl_bd x 1048576 32 (by omega)
  have bf7 := fl_bd x 33554432 128 (by omega)
  go_enter Tryd.func94, Tryd.ntmps94
  go_wp2_with (first | (go_at_call 51; with_reducible refine (drd_w x x0 x1 _).mono ?_; rintro e' w1 ⟨rfl, rfl⟩) | (go_at_call 52; with_reducible refine (drs1_w x x0 x1 _).mono ?_; rintro e' w1 ⟨rfl, rfl⟩) | (go_at_call 55; with_reducible refine (drs2_w x x0 x1 _).mono ?_; rintro e' w1 ⟨rfl, rfl⟩; (try rw [h2])) | (go_at_call 97; with_reducible refine (df7_w x x0 x1 _).mono ?_; rintro e' w1 ⟨rfl, rfl⟩; (try rw [h])))
  go_step3
  go_wp2_with (first | (go_at_call 51; with_reducible refine (drd_w x x0 x1 _).mono ?_; rintro e' w1 ⟨rfl, rfl⟩) | (go_at_call 52; with_reducible refine (drs1_w x x0 x1 _).mono ?_; rintro e' w1 ⟨rfl, rfl⟩) | (go_at_call 55; with_reducible refine (drs2_w x x0 x1 _).mono ?_; rintro e' w1 ⟨rfl, rfl⟩; (try rw [h2])) | (go_at_call 97; with_reducible refine (df7_w x x0 x1 _).mono ?_; rintro e' w1 ⟨rfl, rfl⟩; (try rw [h])))
  go_step3
  go_wp2_with (first | (go_at_call 51; with_reducible refine (drd_w x x0 x1 _).mono ?_; rintro e' w1 ⟨rfl, rfl⟩) | (go_at_call 52; with_reducible refine (drs1_w x x0 x1 _).mono ?_; rintro e' w1 ⟨rfl, rfl⟩) | (go_at_call 55; with_reducible refine (drs2_w x x0 x1 _).mono ?_; rintro e' w1 ⟨rfl, rfl⟩; (try rw [h2])) | (go_at_call 97; with_reducible refine (df7_w x x0 x1 _).mono ?_; rintro e' w1 ⟨rfl, rfl⟩; (try rw [h])))
  try rw [Exit.noGoto_ret]
  refine bodyPost_ret (v := .tuple #[Ins.v ⟨23, 7, (fl x 128 32), (fl x 32768 32), 0, 0, 0, false, false⟩ 0 0, .bool (true)]) (by simp [results, Tryd.results94, go_sem, Ins.v, *]) rfl ⟨RdP.mk ⟨23, 7, (fl x 128 32), (fl x 32768 32), 0, 0, 0, false, false⟩ (true) rfl (by simp [dsReg, dsOne, h, h2, twoB, getB]), by (repeat' (first | with_reducible refine Kp.setCell ?_ ?_ _ | with_reducible refine Kp.allocs ?_ _ _ | with_reducible refine Kp.drew ?_ | with_reducible refine Kp.drewN ?_ _)); all_goals first | exact Kp.refl w | (dsimp only; omega)⟩
end Go.Proofs.YtlfeandnpflaaaaDoor
