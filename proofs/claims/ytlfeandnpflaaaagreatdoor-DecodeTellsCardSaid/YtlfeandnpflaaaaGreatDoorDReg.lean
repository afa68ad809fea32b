/-
  Contract of capdec's reader of registers: all ways. No condition.
-/
import Derived.Test.YtlfeandnpflaaaaGreatDoorMI
import Derived.Test.YtlfeandnpflaaaaGreatDoorMG
import Derived.Test.YtlfeandnpflaaaaGreatDoorMH
import Derived.Test.YtlfeandnpflaaaaGreatDoorMC
import Derived.WalkMore
namespace Go.Proofs.YtlfeandnpflaaaaGreatDoor
open Go.ChangeShapes Go.WideShapes Go.ChangeAt Go.RowKit
set_option linter.unusedVariables false
set_option linter.unusedSimpArgs false

set_option maxHeartbeats 4000000 in
theorem dreg_1 (x : Int) (x0 : 0 ≤ x) (x1 : x < 4294967296) (h : fl x 33554432 128 = 1) (w : World) :
    Calls Tryz.prog 135 #[.int .u32 x] w fun e w' => RdP e (dsReg x) ∧ Kp w w' := by
  have brd := fl_bd x 128 32 (by omega)
  have bf3 := fl_bd x 4096 8 (by omega)
  have br1 := fl_bd x 32768 32 (by omega)
  have br2 := fl_bd x 1048576 32 (by omega)
  have bf7 := fl_bd x 33554432 128 (by omega)
  go_enter Tryz.func135, Tryz.ntmps135
  go_wp2_with (first | (go_at_call 86; with_reducible refine (drd_w x x0 x1 _).mono ?_; rintro e' w1 ⟨rfl, rfl⟩) | (go_at_call 87; with_reducible refine (drs1_w x x0 x1 _).mono ?_; rintro e' w1 ⟨rfl, rfl⟩) | (go_at_call 90; with_reducible refine (drs2_w x x0 x1 _).mono ?_; rintro e' w1 ⟨rfl, rfl⟩) | (go_at_call 138; with_reducible refine (df7_w x x0 x1 _).mono ?_; rintro e' w1 ⟨rfl, rfl⟩; (try rw [h])))
  go_step3
  go_wp2_with (first | (go_at_call 86; with_reducible refine (drd_w x x0 x1 _).mono ?_; rintro e' w1 ⟨rfl, rfl⟩) | (go_at_call 87; with_reducible refine (drs1_w x x0 x1 _).mono ?_; rintro e' w1 ⟨rfl, rfl⟩) | (go_at_call 90; with_reducible refine (drs2_w x x0 x1 _).mono ?_; rintro e' w1 ⟨rfl, rfl⟩) | (go_at_call 138; with_reducible refine (df7_w x x0 x1 _).mono ?_; rintro e' w1 ⟨rfl, rfl⟩; (try rw [h])))
  go_step3
  go_wp2_with (first | (go_at_call 86; with_reducible refine (drd_w x x0 x1 _).mono ?_; rintro e' w1 ⟨rfl, rfl⟩) | (go_at_call 87; with_reducible refine (drs1_w x x0 x1 _).mono ?_; rintro e' w1 ⟨rfl, rfl⟩) | (go_at_call 90; with_reducible refine (drs2_w x x0 x1 _).mono ?_; rintro e' w1 ⟨rfl, rfl⟩) | (go_at_call 138; with_reducible refine (df7_w x x0 x1 _).mono ?_; rintro e' w1 ⟨rfl, rfl⟩; (try rw [h])))
  try rw [Exit.noGoto_ret]
  refine bodyPost_ret (v := .tuple #[Ins.v ⟨27, 0, (fl x 128 32), (fl x 32768 32), 0, (fl x 1048576 32), 0, false, false⟩ 0 0, .bool (true)]) (by simp [results, Tryz.results135, go_sem, Ins.v, *]) rfl ⟨RdP.mk ⟨27, 0, (fl x 128 32), (fl x 32768 32), 0, (fl x 1048576 32), 0, false, false⟩ (true) rfl (by simp [dsReg, h]), by (repeat' (first | with_reducible refine Kp.setCell ?_ ?_ _ | with_reducible refine Kp.allocs ?_ _ _ | with_reducible refine Kp.drew ?_ | with_reducible refine Kp.drewN ?_ _)); all_goals first | exact Kp.refl w | (dsimp only; omega)⟩
set_option maxHeartbeats 4000000 in
theorem dreg_124 (x : Int) (x0 : 0 ≤ x) (x1 : x < 4294967296) (h : fl x 33554432 128 = 124) (w : World) :
    Calls Tryz.prog 135 #[.int .u32 x] w fun e w' => RdP e (dsReg x) ∧ Kp w w' := by
  have brd := fl_bd x 128 32 (by omega)
  have bf3 := fl_bd x 4096 8 (by omega)
  have br1 := fl_bd x 32768 32 (by omega)
  have br2 := fl_bd x 1048576 32 (by omega)
  have bf7 := fl_bd x 33554432 128 (by omega)
  have hr : dsReg x = dsStore x := by simp [dsReg, h, twoB]
  rw [hr]; clear hr
  go_enter Tryz.func135, Tryz.ntmps135
  go_wp2_with (first | (go_at_call 86; with_reducible refine (drd_w x x0 x1 _).mono ?_; rintro e' w1 ⟨rfl, rfl⟩) | (go_at_call 87; with_reducible refine (drs1_w x x0 x1 _).mono ?_; rintro e' w1 ⟨rfl, rfl⟩) | (go_at_call 90; with_reducible refine (drs2_w x x0 x1 _).mono ?_; rintro e' w1 ⟨rfl, rfl⟩) | (go_at_call 138; with_reducible refine (df7_w x x0 x1 _).mono ?_; rintro e' w1 ⟨rfl, rfl⟩; (try rw [h])) | (go_at_call 139; (with_reducible refine (dstore_w x x0 x1 _).mono ?_); rintro e' w2 ⟨⟨⟨op, fn, rd, r1, r2, imm, wid, wo, us⟩, ok, rfl, hs⟩, qk⟩; have HSw2 := Lib.hid hs; clear hs; dsimp only [Ins.v]; have HKw2 := Lib.hid qk; obtain ⟨qw20, qw21, qw22, qw23, qw24, qw25, qw26, qw27, qw28, qw29, qw210⟩ := qk.c11 (b := w.heap.size) (.int .i64 0) (.int .i64 0) (.int .i64 0) (.int .i64 0) (.int .i64 0) (.int .i64 0) (.int .i64 0) (.bool false) (.bool false) (.int .i64 0) (.int .u32 0); obtain ⟨zw20, zw21, zw22, zw23, zw24, zw25, zw26, zw27, zw28, zw29, zw210⟩ := qk.z11 (b := w.heap.size); have sz := qk.size; (try simp at sz); have KW := Lib.hid (Kp.trans (((Kp.refl w).allocs _ _).allocs _ _) qk); have ql0 : w.heap.size < w2.heap.size := (by omega); have ql1 : ¬ w.heap.size = w2.heap.size := (by omega); have ql2 : ¬ w2.heap.size = w.heap.size := (by omega); clear qk))
  go_step3
  go_wp2_with (first | (go_at_call 86; with_reducible refine (drd_w x x0 x1 _).mono ?_; rintro e' w1 ⟨rfl, rfl⟩) | (go_at_call 87; with_reducible refine (drs1_w x x0 x1 _).mono ?_; rintro e' w1 ⟨rfl, rfl⟩) | (go_at_call 90; with_reducible refine (drs2_w x x0 x1 _).mono ?_; rintro e' w1 ⟨rfl, rfl⟩) | (go_at_call 138; with_reducible refine (df7_w x x0 x1 _).mono ?_; rintro e' w1 ⟨rfl, rfl⟩; (try rw [h])) | (go_at_call 139; (with_reducible refine (dstore_w x x0 x1 _).mono ?_); rintro e' w2 ⟨⟨⟨op, fn, rd, r1, r2, imm, wid, wo, us⟩, ok, rfl, hs⟩, qk⟩; have HSw2 := Lib.hid hs; clear hs; dsimp only [Ins.v]; have HKw2 := Lib.hid qk; obtain ⟨qw20, qw21, qw22, qw23, qw24, qw25, qw26, qw27, qw28, qw29, qw210⟩ := qk.c11 (b := w.heap.size) (.int .i64 0) (.int .i64 0) (.int .i64 0) (.int .i64 0) (.int .i64 0) (.int .i64 0) (.int .i64 0) (.bool false) (.bool false) (.int .i64 0) (.int .u32 0); obtain ⟨zw20, zw21, zw22, zw23, zw24, zw25, zw26, zw27, zw28, zw29, zw210⟩ := qk.z11 (b := w.heap.size); have sz := qk.size; (try simp at sz); have KW := Lib.hid (Kp.trans (((Kp.refl w).allocs _ _).allocs _ _) qk); have ql0 : w.heap.size < w2.heap.size := (by omega); have ql1 : ¬ w.heap.size = w2.heap.size := (by omega); have ql2 : ¬ w2.heap.size = w.heap.size := (by omega); clear qk))
  go_step3
  go_wp2_with (first | (go_at_call 86; with_reducible refine (drd_w x x0 x1 _).mono ?_; rintro e' w1 ⟨rfl, rfl⟩) | (go_at_call 87; with_reducible refine (drs1_w x x0 x1 _).mono ?_; rintro e' w1 ⟨rfl, rfl⟩) | (go_at_call 90; with_reducible refine (drs2_w x x0 x1 _).mono ?_; rintro e' w1 ⟨rfl, rfl⟩) | (go_at_call 138; with_reducible refine (df7_w x x0 x1 _).mono ?_; rintro e' w1 ⟨rfl, rfl⟩; (try rw [h])) | (go_at_call 139; (with_reducible refine (dstore_w x x0 x1 _).mono ?_); rintro e' w2 ⟨⟨⟨op, fn, rd, r1, r2, imm, wid, wo, us⟩, ok, rfl, hs⟩, qk⟩; have HSw2 := Lib.hid hs; clear hs; dsimp only [Ins.v]; have HKw2 := Lib.hid qk; obtain ⟨qw20, qw21, qw22, qw23, qw24, qw25, qw26, qw27, qw28, qw29, qw210⟩ := qk.c11 (b := w.heap.size) (.int .i64 0) (.int .i64 0) (.int .i64 0) (.int .i64 0) (.int .i64 0) (.int .i64 0) (.int .i64 0) (.bool false) (.bool false) (.int .i64 0) (.int .u32 0); obtain ⟨zw20, zw21, zw22, zw23, zw24, zw25, zw26, zw27, zw28, zw29, zw210⟩ := qk.z11 (b := w.heap.size); have sz := qk.size; (try simp at sz); have KW := Lib.hid (Kp.trans (((Kp.refl w).allocs _ _).allocs _ _) qk); have ql0 : w.heap.size < w2.heap.size := (by omega); have ql1 : ¬ w.heap.size = w2.heap.size := (by omega); have ql2 : ¬ w2.heap.size = w.heap.size := (by omega); clear qk))
  try rw [Exit.noGoto_ret]
  refine bodyPost_ret (v := .tuple #[Ins.v ⟨op, fn, rd, r1, r2, imm, wid, wo, us⟩ 0 0, .bool (ok)]) (by simp [results, Tryz.results135, go_sem, Ins.v, *]) rfl ⟨RdP.mk ⟨op, fn, rd, r1, r2, imm, wid, wo, us⟩ (ok) rfl (HSw2.out), by (repeat' (first | with_reducible refine Kp.setCell ?_ ?_ _ | with_reducible refine Kp.allocs ?_ _ _ | with_reducible refine Kp.drew ?_ | with_reducible refine Kp.drewN ?_ _)); all_goals first | exact KW.out | (dsimp only; omega)⟩
set_option maxHeartbeats 4000000 in
theorem dreg_125 (x : Int) (x0 : 0 ≤ x) (x1 : x < 4294967296) (h : fl x 33554432 128 = 125) (w : World) :
    Calls Tryz.prog 135 #[.int .u32 x] w fun e w' => RdP e (dsReg x) ∧ Kp w w' := by
  have brd := fl_bd x 128 32 (by omega)
  have bf3 := fl_bd x 4096 8 (by omega)
  have br1 := fl_bd x 32768 32 (by omega)
  have br2 := fl_bd x 1048576 32 (by omega)
  have bf7 := fl_bd x 33554432 128 (by omega)
  have hr : dsReg x = dsLoad x := by simp [dsReg, h, twoB]
  rw [hr]; clear hr
  go_enter Tryz.func135, Tryz.ntmps135
  go_wp2_with (first | (go_at_call 86; with_reducible refine (drd_w x x0 x1 _).mono ?_; rintro e' w1 ⟨rfl, rfl⟩) | (go_at_call 87; with_reducible refine (drs1_w x x0 x1 _).mono ?_; rintro e' w1 ⟨rfl, rfl⟩) | (go_at_call 90; with_reducible refine (drs2_w x x0 x1 _).mono ?_; rintro e' w1 ⟨rfl, rfl⟩) | (go_at_call 138; with_reducible refine (df7_w x x0 x1 _).mono ?_; rintro e' w1 ⟨rfl, rfl⟩; (try rw [h])) | (go_at_call 140; (with_reducible refine (dload_w x x0 x1 _).mono ?_); rintro e' w2 ⟨⟨⟨op, fn, rd, r1, r2, imm, wid, wo, us⟩, ok, rfl, hs⟩, qk⟩; have HSw2 := Lib.hid hs; clear hs; dsimp only [Ins.v]; have HKw2 := Lib.hid qk; obtain ⟨qw20, qw21, qw22, qw23, qw24, qw25, qw26, qw27, qw28, qw29, qw210⟩ := qk.c11 (b := w.heap.size) (.int .i64 0) (.int .i64 0) (.int .i64 0) (.int .i64 0) (.int .i64 0) (.int .i64 0) (.int .i64 0) (.bool false) (.bool false) (.int .i64 0) (.int .u32 0); obtain ⟨zw20, zw21, zw22, zw23, zw24, zw25, zw26, zw27, zw28, zw29, zw210⟩ := qk.z11 (b := w.heap.size); have sz := qk.size; (try simp at sz); have KW := Lib.hid (Kp.trans (((Kp.refl w).allocs _ _).allocs _ _) qk); have ql0 : w.heap.size < w2.heap.size := (by omega); have ql1 : ¬ w.heap.size = w2.heap.size := (by omega); have ql2 : ¬ w2.heap.size = w.heap.size := (by omega); clear qk))
  go_step3
  go_wp2_with (first | (go_at_call 86; with_reducible refine (drd_w x x0 x1 _).mono ?_; rintro e' w1 ⟨rfl, rfl⟩) | (go_at_call 87; with_reducible refine (drs1_w x x0 x1 _).mono ?_; rintro e' w1 ⟨rfl, rfl⟩) | (go_at_call 90; with_reducible refine (drs2_w x x0 x1 _).mono ?_; rintro e' w1 ⟨rfl, rfl⟩) | (go_at_call 138; with_reducible refine (df7_w x x0 x1 _).mono ?_; rintro e' w1 ⟨rfl, rfl⟩; (try rw [h])) | (go_at_call 140; (with_reducible refine (dload_w x x0 x1 _).mono ?_); rintro e' w2 ⟨⟨⟨op, fn, rd, r1, r2, imm, wid, wo, us⟩, ok, rfl, hs⟩, qk⟩; have HSw2 := Lib.hid hs; clear hs; dsimp only [Ins.v]; have HKw2 := Lib.hid qk; obtain ⟨qw20, qw21, qw22, qw23, qw24, qw25, qw26, qw27, qw28, qw29, qw210⟩ := qk.c11 (b := w.heap.size) (.int .i64 0) (.int .i64 0) (.int .i64 0) (.int .i64 0) (.int .i64 0) (.int .i64 0) (.int .i64 0) (.bool false) (.bool false) (.int .i64 0) (.int .u32 0); obtain ⟨zw20, zw21, zw22, zw23, zw24, zw25, zw26, zw27, zw28, zw29, zw210⟩ := qk.z11 (b := w.heap.size); have sz := qk.size; (try simp at sz); have KW := Lib.hid (Kp.trans (((Kp.refl w).allocs _ _).allocs _ _) qk); have ql0 : w.heap.size < w2.heap.size := (by omega); have ql1 : ¬ w.heap.size = w2.heap.size := (by omega); have ql2 : ¬ w2.heap.size = w.heap.size := (by omega); clear qk))
  go_step3
  go_wp2_with (first | (go_at_call 86; with_reducible refine (drd_w x x0 x1 _).mono ?_; rintro e' w1 ⟨rfl, rfl⟩) | (go_at_call 87; with_reducible refine (drs1_w x x0 x1 _).mono ?_; rintro e' w1 ⟨rfl, rfl⟩) | (go_at_call 90; with_reducible refine (drs2_w x x0 x1 _).mono ?_; rintro e' w1 ⟨rfl, rfl⟩) | (go_at_call 138; with_reducible refine (df7_w x x0 x1 _).mono ?_; rintro e' w1 ⟨rfl, rfl⟩; (try rw [h])) | (go_at_call 140; (with_reducible refine (dload_w x x0 x1 _).mono ?_); rintro e' w2 ⟨⟨⟨op, fn, rd, r1, r2, imm, wid, wo, us⟩, ok, rfl, hs⟩, qk⟩; have HSw2 := Lib.hid hs; clear hs; dsimp only [Ins.v]; have HKw2 := Lib.hid qk; obtain ⟨qw20, qw21, qw22, qw23, qw24, qw25, qw26, qw27, qw28, qw29, qw210⟩ := qk.c11 (b := w.heap.size) (.int .i64 0) (.int .i64 0) (.int .i64 0) (.int .i64 0) (.int .i64 0) (.int .i64 0) (.int .i64 0) (.bool false) (.bool false) (.int .i64 0) (.int .u32 0); obtain ⟨zw20, zw21, zw22, zw23, zw24, zw25, zw26, zw27, zw28, zw29, zw210⟩ := qk.z11 (b := w.heap.size); have sz := qk.size; (try simp at sz); have KW := Lib.hid (Kp.trans (((Kp.refl w).allocs _ _).allocs _ _) qk); have ql0 : w.heap.size < w2.heap.size := (by omega); have ql1 : ¬ w.heap.size = w2.heap.size := (by omega); have ql2 : ¬ w2.heap.size = w.heap.size := (by omega); clear qk))
  try rw [Exit.noGoto_ret]
  refine bodyPost_ret (v := .tuple #[Ins.v ⟨op, fn, rd, r1, r2, imm, wid, wo, us⟩ 0 0, .bool (ok)]) (by simp [results, Tryz.results135, go_sem, Ins.v, *]) rfl ⟨RdP.mk ⟨op, fn, rd, r1, r2, imm, wid, wo, us⟩ (ok) rfl (HSw2.out), by (repeat' (first | with_reducible refine Kp.setCell ?_ ?_ _ | with_reducible refine Kp.allocs ?_ _ _ | with_reducible refine Kp.drew ?_ | with_reducible refine Kp.drewN ?_ _)); all_goals first | exact KW.out | (dsimp only; omega)⟩
set_option maxHeartbeats 4000000 in
theorem dreg_n (x : Int) (x0 : 0 ≤ x) (x1 : x < 4294967296) (h1 : ¬ fl x 33554432 128 = 1) (h2 : twoB (fl x 33554432 128) = false) (h3 : ¬ fl x 33554432 128 = 124) (h4 : ¬ fl x 33554432 128 = 125) (h5 : ¬ fl x 33554432 128 = 127) (w : World) :
    Calls Tryz.prog 135 #[.int .u32 x] w fun e w' => RdP e (dsReg x) ∧ Kp w w' := by
  have brd := fl_bd x 128 32 (by omega)
  have bf3 := fl_bd x 4096 8 (by omega)
  have br1 := fl_bd x 32768 32 (by omega)
  have br2 := fl_bd x 1048576 32 (by omega)
  have bf7 := fl_bd x 33554432 128 (by omega)
  have hs : dsReg x = none := by simp [dsReg, h1, h2, h3, h4, h5]
  simp only [twoB, Bool.or_eq_false_iff, beq_eq_false_iff_ne] at h2
  obtain ⟨⟨⟨⟨⟨⟨⟨⟨⟨⟨⟨⟨⟨⟨g0, g1⟩, g2⟩, g3⟩, g4⟩, g5⟩, g6⟩, g7⟩, g8⟩, g9⟩, g10⟩, g11⟩, g12⟩, g13⟩, g14⟩ := h2
  have t1 : (fl x 33554432 128 == 1) = false := by simp; omega
  have t8 : (fl x 33554432 128 == 8) = false := by simp; omega
  have t9 : (fl x 33554432 128 == 9) = false := by simp; omega
  have t11 : (fl x 33554432 128 == 11) = false := by simp; omega
  have t12 : (fl x 33554432 128 == 12) = false := by simp; omega
  have t13 : (fl x 33554432 128 == 13) = false := by simp; omega
  have t14 : (fl x 33554432 128 == 14) = false := by simp; omega
  have t15 : (fl x 33554432 128 == 15) = false := by simp; omega
  have t16 : (fl x 33554432 128 == 16) = false := by simp; omega
  have t17 : (fl x 33554432 128 == 17) = false := by simp; omega
  have t18 : (fl x 33554432 128 == 18) = false := by simp; omega
  have t19 : (fl x 33554432 128 == 19) = false := by simp; omega
  have t20 : (fl x 33554432 128 == 20) = false := by simp; omega
  have t29 : (fl x 33554432 128 == 29) = false := by simp; omega
  have t30 : (fl x 33554432 128 == 30) = false := by simp; omega
  have t32 : (fl x 33554432 128 == 32) = false := by simp; omega
  have t124 : (fl x 33554432 128 == 124) = false := by simp; omega
  have t125 : (fl x 33554432 128 == 125) = false := by simp; omega
  have t127 : (fl x 33554432 128 == 127) = false := by simp; omega
  clear h1 h3 h4 h5 g0 g1 g2 g3 g4 g5 g6 g7 g8 g9 g10 g11 g12 g13 g14
  go_enter Tryz.func135, Tryz.ntmps135
  go_wp2_with (first | (go_at_call 86; with_reducible refine (drd_w x x0 x1 _).mono ?_; rintro e' w1 ⟨rfl, rfl⟩) | (go_at_call 87; with_reducible refine (drs1_w x x0 x1 _).mono ?_; rintro e' w1 ⟨rfl, rfl⟩) | (go_at_call 90; with_reducible refine (drs2_w x x0 x1 _).mono ?_; rintro e' w1 ⟨rfl, rfl⟩) | (go_at_call 138; with_reducible refine (df7_w x x0 x1 _).mono ?_; rintro e' w1 ⟨rfl, rfl⟩))
  go_step3
  go_wp2_with (first | (go_at_call 86; with_reducible refine (drd_w x x0 x1 _).mono ?_; rintro e' w1 ⟨rfl, rfl⟩) | (go_at_call 87; with_reducible refine (drs1_w x x0 x1 _).mono ?_; rintro e' w1 ⟨rfl, rfl⟩) | (go_at_call 90; with_reducible refine (drs2_w x x0 x1 _).mono ?_; rintro e' w1 ⟨rfl, rfl⟩) | (go_at_call 138; with_reducible refine (df7_w x x0 x1 _).mono ?_; rintro e' w1 ⟨rfl, rfl⟩))
  go_step3
  go_wp2_with (first | (go_at_call 86; with_reducible refine (drd_w x x0 x1 _).mono ?_; rintro e' w1 ⟨rfl, rfl⟩) | (go_at_call 87; with_reducible refine (drs1_w x x0 x1 _).mono ?_; rintro e' w1 ⟨rfl, rfl⟩) | (go_at_call 90; with_reducible refine (drs2_w x x0 x1 _).mono ?_; rintro e' w1 ⟨rfl, rfl⟩) | (go_at_call 138; with_reducible refine (df7_w x x0 x1 _).mono ?_; rintro e' w1 ⟨rfl, rfl⟩))
  try rw [Exit.noGoto_ret]
  refine bodyPost_ret (v := .tuple #[Ins.v zIns 0 0, .bool (false)]) (by simp [results, Tryz.results135, go_sem, Ins.v, zIns, *]) rfl ⟨RdP.mk zIns (false) rfl (hs), by (repeat' (first | with_reducible refine Kp.setCell ?_ ?_ _ | with_reducible refine Kp.allocs ?_ _ _ | with_reducible refine Kp.drew ?_ | with_reducible refine Kp.drewN ?_ _)); all_goals first | exact Kp.refl w | (dsimp only; omega)⟩
theorem dreg_w (x : Int) (x0 : 0 ≤ x) (x1 : x < 4294967296) (w : World) :
    Calls Tryz.prog 135 #[.int .u32 x] w fun e w' => RdP e (dsReg x) ∧ Kp w w' := by
  have br2 := fl_bd x 1048576 32 (by omega)
  by_cases h1 : fl x 33554432 128 = 1
  · exact dreg_1 x x0 x1 h1 w
  by_cases h3 : fl x 33554432 128 = 124
  · exact dreg_124 x x0 x1 h3 w
  by_cases h4 : fl x 33554432 128 = 125
  · exact dreg_125 x x0 x1 h4 w
  by_cases h5 : fl x 33554432 128 = 127
  · by_cases h6 : fl x 1048576 32 = 12
    · exact dget_12 x x0 x1 h5 h6 w
    rcases hb : getB (fl x 1048576 32) with _ | _
    · exact dget_n x x0 x1 h5 hb h6 w
    · simp only [getB, Bool.or_eq_true, decide_eq_true_eq, beq_iff_eq] at hb
      rcases (show fl x 1048576 32 = 0 ∨ fl x 1048576 32 = 1 ∨ fl x 1048576 32 = 2 ∨ fl x 1048576 32 = 3 ∨ fl x 1048576 32 = 4 ∨ fl x 1048576 32 = 5 ∨ fl x 1048576 32 = 6 ∨ fl x 1048576 32 = 7 ∨ fl x 1048576 32 = 8 ∨ fl x 1048576 32 = 9 ∨ fl x 1048576 32 = 10 ∨ fl x 1048576 32 = 11 ∨ fl x 1048576 32 = 15 ∨ fl x 1048576 32 = 17 ∨ fl x 1048576 32 = 24 by omega) with h | h | h | h | h | h | h | h | h | h | h | h | h | h | h
      · exact dget_0 x x0 x1 h5 h w
      · exact dget_1 x x0 x1 h5 h w
      · exact dget_2 x x0 x1 h5 h w
      · exact dget_3 x x0 x1 h5 h w
      · exact dget_4 x x0 x1 h5 h w
      · exact dget_5 x x0 x1 h5 h w
      · exact dget_6 x x0 x1 h5 h w
      · exact dget_7 x x0 x1 h5 h w
      · exact dget_8 x x0 x1 h5 h w
      · exact dget_9 x x0 x1 h5 h w
      · exact dget_10 x x0 x1 h5 h w
      · exact dget_11 x x0 x1 h5 h w
      · exact dget_15 x x0 x1 h5 h w
      · exact dget_17 x x0 x1 h5 h w
      · exact dget_24 x x0 x1 h5 h w
  rcases hb : twoB (fl x 33554432 128) with _ | _
  · exact dreg_n x x0 x1 h1 hb h3 h4 h5 w
  · simp only [twoB, Bool.or_eq_true, beq_iff_eq] at hb
    rcases (show fl x 33554432 128 = 8 ∨ fl x 33554432 128 = 9 ∨ fl x 33554432 128 = 11 ∨ fl x 33554432 128 = 12 ∨ fl x 33554432 128 = 13 ∨ fl x 33554432 128 = 14 ∨ fl x 33554432 128 = 15 ∨ fl x 33554432 128 = 16 ∨ fl x 33554432 128 = 17 ∨ fl x 33554432 128 = 18 ∨ fl x 33554432 128 = 19 ∨ fl x 33554432 128 = 20 ∨ fl x 33554432 128 = 29 ∨ fl x 33554432 128 = 30 ∨ fl x 33554432 128 = 32 by omega) with h | h | h | h | h | h | h | h | h | h | h | h | h | h | h
    · exact dreg_8 x x0 x1 h w
    · exact dreg_9 x x0 x1 h w
    · exact dreg_11 x x0 x1 h w
    · exact dreg_12 x x0 x1 h w
    · exact dreg_13 x x0 x1 h w
    · exact dreg_14 x x0 x1 h w
    · exact dreg_15 x x0 x1 h w
    · exact dreg_16 x x0 x1 h w
    · exact dreg_17 x x0 x1 h w
    · exact dreg_18 x x0 x1 h w
    · exact dreg_19 x x0 x1 h w
    · exact dreg_20 x x0 x1 h w
    · exact dreg_29 x x0 x1 h w
    · exact dreg_30 x x0 x1 h w
    · exact dreg_32 x x0 x1 h w
end Go.Proofs.YtlfeandnpflaaaaGreatDoor
