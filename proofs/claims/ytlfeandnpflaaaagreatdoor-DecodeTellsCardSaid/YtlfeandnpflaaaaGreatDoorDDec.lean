/-
  Contract of capdec.Decode: any word is what the document says it is. No condition.
-/
import Derived.Test.YtlfeandnpflaaaaGreatDoorDReg
import Derived.WalkMore
namespace Go.Proofs.YtlfeandnpflaaaaGreatDoor
open Go.ChangeShapes Go.WideShapes Go.ChangeAt Go.RowKit
set_option linter.unusedVariables false
set_option linter.unusedSimpArgs false

set_option maxHeartbeats 4000000 in
theorem dcap_0 (x : Int) (x0 : 0 ≤ x) (x1 : x < 4294967296) (h : fl x 4096 8 = 0) (w : World) :
    Calls Tryz.prog 92 #[.int .u32 x] w fun e w' => RdP e (dsCap x) ∧ Kp w w' := by
  have brd := fl_bd x 128 32 (by omega)
  have bf3 := fl_bd x 4096 8 (by omega)
  have br1 := fl_bd x 32768 32 (by omega)
  have br2 := fl_bd x 1048576 32 (by omega)
  have bf7 := fl_bd x 33554432 128 (by omega)
  have hr : dsCap x = dsReg x := by simp [dsCap, h]
  rw [hr]; clear hr
  go_enter Tryz.func92, Tryz.ntmps92
  go_wp2_with (first | (go_at_call 86; with_reducible refine (drd_w x x0 x1 _).mono ?_; rintro e' w1 ⟨rfl, rfl⟩) | (go_at_call 87; with_reducible refine (drs1_w x x0 x1 _).mono ?_; rintro e' w1 ⟨rfl, rfl⟩) | (go_at_call 88; with_reducible refine (dimmI_w x x0 x1 _).mono ?_; rintro e' w1 ⟨rfl, rfl⟩) | (go_at_call 133; with_reducible refine (dfield_31_20 x x0 x1 _).mono ?_; rintro e' w1 ⟨rfl, rfl⟩) | (go_at_call 89; with_reducible refine (df3_w x x0 x1 _).mono ?_; rintro e' w1 ⟨rfl, rfl⟩; (try rw [h])) | (go_at_call 135; (with_reducible refine (dreg_w x x0 x1 _).mono ?_); rintro e' w2 ⟨⟨⟨op, fn, rd, r1, r2, imm, wid, wo, us⟩, ok, rfl, hs⟩, qk⟩; have HSw2 := Lib.hid hs; clear hs; dsimp only [Ins.v]; have HKw2 := Lib.hid qk; obtain ⟨qw20, qw21, qw22, qw23, qw24, qw25, qw26, qw27, qw28, qw29, qw210⟩ := qk.c11 (b := w.heap.size) (.int .i64 0) (.int .i64 0) (.int .i64 0) (.int .i64 0) (.int .i64 0) (.int .i64 0) (.int .i64 0) (.bool false) (.bool false) (.int .i64 0) (.int .u32 0); obtain ⟨zw20, zw21, zw22, zw23, zw24, zw25, zw26, zw27, zw28, zw29, zw210⟩ := qk.z11 (b := w.heap.size); have sz := qk.size; (try simp at sz); have KW := Lib.hid (Kp.trans (((Kp.refl w).allocs _ _).allocs _ _) qk); have ql0 : w.heap.size < w2.heap.size := (by omega); have ql1 : ¬ w.heap.size = w2.heap.size := (by omega); have ql2 : ¬ w2.heap.size = w.heap.size := (by omega); clear qk))
  refine bodyPost_ret (v := .tuple #[Ins.v ⟨op, fn, rd, r1, r2, imm, wid, wo, us⟩ 0 0, .bool (ok)]) (by simp [results, Tryz.results92, go_sem, Ins.v, *]) rfl ⟨RdP.mk ⟨op, fn, rd, r1, r2, imm, wid, wo, us⟩ (ok) rfl (HSw2.out), by (repeat' (first | with_reducible refine Kp.setCell ?_ ?_ _ | with_reducible refine Kp.allocs ?_ _ _ | with_reducible refine Kp.drew ?_ | with_reducible refine Kp.drewN ?_ _)); all_goals first | exact KW.out | (dsimp only; omega)⟩
set_option maxHeartbeats 4000000 in
theorem dcap_1 (x : Int) (x0 : 0 ≤ x) (x1 : x < 4294967296) (h : fl x 4096 8 = 1) (w : World) :
    Calls Tryz.prog 92 #[.int .u32 x] w fun e w' => RdP e (dsCap x) ∧ Kp w w' := by
  have brd := fl_bd x 128 32 (by omega)
  have bf3 := fl_bd x 4096 8 (by omega)
  have br1 := fl_bd x 32768 32 (by omega)
  have br2 := fl_bd x 1048576 32 (by omega)
  have bf7 := fl_bd x 33554432 128 (by omega)
  go_enter Tryz.func92, Tryz.ntmps92
  go_wp2_with (first | (go_at_call 86; with_reducible refine (drd_w x x0 x1 _).mono ?_; rintro e' w1 ⟨rfl, rfl⟩) | (go_at_call 87; with_reducible refine (drs1_w x x0 x1 _).mono ?_; rintro e' w1 ⟨rfl, rfl⟩) | (go_at_call 88; with_reducible refine (dimmI_w x x0 x1 _).mono ?_; rintro e' w1 ⟨rfl, rfl⟩) | (go_at_call 133; with_reducible refine (dfield_31_20 x x0 x1 _).mono ?_; rintro e' w1 ⟨rfl, rfl⟩) | (go_at_call 89; with_reducible refine (df3_w x x0 x1 _).mono ?_; rintro e' w1 ⟨rfl, rfl⟩; (try rw [h])))
  refine bodyPost_ret (v := .tuple #[Ins.v ⟨25, 1, (fl x 128 32), (fl x 32768 32), 0, iI x, 0, false, false⟩ 0 0, .bool (true)]) (by simp [results, Tryz.results92, go_sem, Ins.v, *]) rfl ⟨RdP.mk ⟨25, 1, (fl x 128 32), (fl x 32768 32), 0, iI x, 0, false, false⟩ (true) rfl (by simp [dsCap, h]), by (repeat' (first | with_reducible refine Kp.setCell ?_ ?_ _ | with_reducible refine Kp.allocs ?_ _ _ | with_reducible refine Kp.drew ?_ | with_reducible refine Kp.drewN ?_ _)); all_goals first | exact Kp.refl w | (dsimp only; omega)⟩
set_option maxHeartbeats 4000000 in
theorem dcap_2 (x : Int) (x0 : 0 ≤ x) (x1 : x < 4294967296) (h : fl x 4096 8 = 2) (w : World) :
    Calls Tryz.prog 92 #[.int .u32 x] w fun e w' => RdP e (dsCap x) ∧ Kp w w' := by
  have brd := fl_bd x 128 32 (by omega)
  have bf3 := fl_bd x 4096 8 (by omega)
  have br1 := fl_bd x 32768 32 (by omega)
  have br2 := fl_bd x 1048576 32 (by omega)
  have bf7 := fl_bd x 33554432 128 (by omega)
  go_enter Tryz.func92, Tryz.ntmps92
  go_wp2_with (first | (go_at_call 86; with_reducible refine (drd_w x x0 x1 _).mono ?_; rintro e' w1 ⟨rfl, rfl⟩) | (go_at_call 87; with_reducible refine (drs1_w x x0 x1 _).mono ?_; rintro e' w1 ⟨rfl, rfl⟩) | (go_at_call 88; with_reducible refine (dimmI_w x x0 x1 _).mono ?_; rintro e' w1 ⟨rfl, rfl⟩) | (go_at_call 133; with_reducible refine (dfield_31_20 x x0 x1 _).mono ?_; rintro e' w1 ⟨rfl, rfl⟩) | (go_at_call 89; with_reducible refine (df3_w x x0 x1 _).mono ?_; rintro e' w1 ⟨rfl, rfl⟩; (try rw [h])))
  refine bodyPost_ret (v := .tuple #[Ins.v ⟨25, 2, (fl x 128 32), (fl x 32768 32), 0, fl x 1048576 4096, 0, false, false⟩ 0 0, .bool (true)]) (by simp [results, Tryz.results92, go_sem, Ins.v, *]) rfl ⟨RdP.mk ⟨25, 2, (fl x 128 32), (fl x 32768 32), 0, fl x 1048576 4096, 0, false, false⟩ (true) rfl (by simp [dsCap, h]), by (repeat' (first | with_reducible refine Kp.setCell ?_ ?_ _ | with_reducible refine Kp.allocs ?_ _ _ | with_reducible refine Kp.drew ?_ | with_reducible refine Kp.drewN ?_ _)); all_goals first | exact Kp.refl w | (dsimp only; omega)⟩
set_option maxHeartbeats 4000000 in
theorem dcap_n (x : Int) (x0 : 0 ≤ x) (x1 : x < 4294967296) (h : 2 < fl x 4096 8) (w : World) :
    Calls Tryz.prog 92 #[.int .u32 x] w fun e w' => RdP e (dsCap x) ∧ Kp w w' := by
  have brd := fl_bd x 128 32 (by omega)
  have bf3 := fl_bd x 4096 8 (by omega)
  have br1 := fl_bd x 32768 32 (by omega)
  have br2 := fl_bd x 1048576 32 (by omega)
  have bf7 := fl_bd x 33554432 128 (by omega)
  have hs : dsCap x = none := by simp [dsCap, show ¬ fl x 4096 8 = 0 by omega, show ¬ fl x 4096 8 = 1 by omega, show ¬ fl x 4096 8 = 2 by omega]
  have t0 : (fl x 4096 8 == 0) = false := by simp; omega
  have t1 : (fl x 4096 8 == 1) = false := by simp; omega
  have t2 : (fl x 4096 8 == 2) = false := by simp; omega
  have HH := Lib.hid h
  clear h
  go_enter Tryz.func92, Tryz.ntmps92
  go_wp2_with (first | (go_at_call 86; with_reducible refine (drd_w x x0 x1 _).mono ?_; rintro e' w1 ⟨rfl, rfl⟩) | (go_at_call 87; with_reducible refine (drs1_w x x0 x1 _).mono ?_; rintro e' w1 ⟨rfl, rfl⟩) | (go_at_call 89; with_reducible refine (df3_w x x0 x1 _).mono ?_; rintro e' w1 ⟨rfl, rfl⟩))
  refine bodyPost_ret (v := .tuple #[Ins.v zIns 0 0, .bool (false)]) (by simp [results, Tryz.results92, go_sem, Ins.v, zIns, *]) rfl ⟨RdP.mk zIns (false) rfl (hs), by (repeat' (first | with_reducible refine Kp.setCell ?_ ?_ _ | with_reducible refine Kp.allocs ?_ _ _ | with_reducible refine Kp.drew ?_ | with_reducible refine Kp.drewN ?_ _)); all_goals first | exact Kp.refl w | (dsimp only; omega)⟩
theorem dcap_w (x : Int) (x0 : 0 ≤ x) (x1 : x < 4294967296) (w : World) :
    Calls Tryz.prog 92 #[.int .u32 x] w fun e w' => RdP e (dsCap x) ∧ Kp w w' := by
  have bf3 := fl_bd x 4096 8 (by omega)
  rcases (show fl x 4096 8 = 0 ∨ fl x 4096 8 = 1 ∨ fl x 4096 8 = 2 ∨ 2 < fl x 4096 8 by omega) with h | h | h | h
  · exact dcap_0 x x0 x1 h w
  · exact dcap_1 x x0 x1 h w
  · exact dcap_2 x x0 x1 h w
  · exact dcap_n x x0 x1 h w
set_option maxHeartbeats 4000000 in
theorem dread_15 (x : Int) (x0 : 0 ≤ x) (x1 : x < 4294967296) (h : fl x 1 128 = 15) (w : World) :
    Calls Tryz.prog 33 #[.int .u32 x] w fun e w' => RdP e (dspec x) ∧ Kp w w' := by
  have brd := fl_bd x 128 32 (by omega)
  have bf3 := fl_bd x 4096 8 (by omega)
  have br1 := fl_bd x 32768 32 (by omega)
  have br2 := fl_bd x 1048576 32 (by omega)
  have bf7 := fl_bd x 33554432 128 (by omega)
  go_enter Tryz.func33, Tryz.ntmps33
  go_wp2_with (first | (go_at_call 86; with_reducible refine (drd_w x x0 x1 _).mono ?_; rintro e' w1 ⟨rfl, rfl⟩) | (go_at_call 87; with_reducible refine (drs1_w x x0 x1 _).mono ?_; rintro e' w1 ⟨rfl, rfl⟩) | (go_at_call 90; with_reducible refine (drs2_w x x0 x1 _).mono ?_; rintro e' w1 ⟨rfl, rfl⟩) | (go_at_call 88; with_reducible refine (dimmI_w x x0 x1 _).mono ?_; rintro e' w1 ⟨rfl, rfl⟩) | (go_at_call 91; with_reducible refine (dimmS_w x x0 x1 _).mono ?_; rintro e' w1 ⟨rfl, rfl⟩) | (go_at_call 89; with_reducible refine (df3_w x x0 x1 _).mono ?_; rintro e' w1 ⟨rfl, rfl⟩) | (go_at_call 85; with_reducible refine (dop_w x x0 x1 _).mono ?_; rintro e' w1 ⟨rfl, rfl⟩; (try rw [h])))
  refine bodyPost_ret (v := .tuple #[Ins.v ⟨6, 0, (fl x 128 32), (fl x 32768 32), 0, iI x, 7, false, false⟩ 0 0, .bool (fl x 4096 8 == 2)]) (by simp [results, Tryz.results33, go_sem, Ins.v, *]) rfl ⟨RdP.mk ⟨6, 0, (fl x 128 32), (fl x 32768 32), 0, iI x, 7, false, false⟩ (fl x 4096 8 == 2) rfl (by by_cases g : fl x 4096 8 = 2 <;> simp [dspec, h, g]), by (repeat' (first | with_reducible refine Kp.setCell ?_ ?_ _ | with_reducible refine Kp.allocs ?_ _ _ | with_reducible refine Kp.drew ?_ | with_reducible refine Kp.drewN ?_ _)); all_goals first | exact Kp.refl w | (dsimp only; omega)⟩
set_option maxHeartbeats 4000000 in
theorem dread_35 (x : Int) (x0 : 0 ≤ x) (x1 : x < 4294967296) (h : fl x 1 128 = 35) (w : World) :
    Calls Tryz.prog 33 #[.int .u32 x] w fun e w' => RdP e (dspec x) ∧ Kp w w' := by
  have brd := fl_bd x 128 32 (by omega)
  have bf3 := fl_bd x 4096 8 (by omega)
  have br1 := fl_bd x 32768 32 (by omega)
  have br2 := fl_bd x 1048576 32 (by omega)
  have bf7 := fl_bd x 33554432 128 (by omega)
  go_enter Tryz.func33, Tryz.ntmps33
  go_wp2_with (first | (go_at_call 86; with_reducible refine (drd_w x x0 x1 _).mono ?_; rintro e' w1 ⟨rfl, rfl⟩) | (go_at_call 87; with_reducible refine (drs1_w x x0 x1 _).mono ?_; rintro e' w1 ⟨rfl, rfl⟩) | (go_at_call 90; with_reducible refine (drs2_w x x0 x1 _).mono ?_; rintro e' w1 ⟨rfl, rfl⟩) | (go_at_call 88; with_reducible refine (dimmI_w x x0 x1 _).mono ?_; rintro e' w1 ⟨rfl, rfl⟩) | (go_at_call 91; with_reducible refine (dimmS_w x x0 x1 _).mono ?_; rintro e' w1 ⟨rfl, rfl⟩) | (go_at_call 89; with_reducible refine (df3_w x x0 x1 _).mono ?_; rintro e' w1 ⟨rfl, rfl⟩) | (go_at_call 85; with_reducible refine (dop_w x x0 x1 _).mono ?_; rintro e' w1 ⟨rfl, rfl⟩; (try rw [h])))
  refine bodyPost_ret (v := .tuple #[Ins.v ⟨7, 0, 0, (fl x 32768 32), (fl x 1048576 32), iS x, 7, false, false⟩ 0 0, .bool (fl x 4096 8 == 4)]) (by simp [results, Tryz.results33, go_sem, Ins.v, *]) rfl ⟨RdP.mk ⟨7, 0, 0, (fl x 32768 32), (fl x 1048576 32), iS x, 7, false, false⟩ (fl x 4096 8 == 4) rfl (by by_cases g : fl x 4096 8 = 4 <;> simp [dspec, h, g]), by (repeat' (first | with_reducible refine Kp.setCell ?_ ?_ _ | with_reducible refine Kp.allocs ?_ _ _ | with_reducible refine Kp.drew ?_ | with_reducible refine Kp.drewN ?_ _)); all_goals first | exact Kp.refl w | (dsimp only; omega)⟩
set_option maxHeartbeats 4000000 in
theorem dread_91 (x : Int) (x0 : 0 ≤ x) (x1 : x < 4294967296) (h : fl x 1 128 = 91) (w : World) :
    Calls Tryz.prog 33 #[.int .u32 x] w fun e w' => RdP e (dspec x) ∧ Kp w w' := by
  have brd := fl_bd x 128 32 (by omega)
  have bf3 := fl_bd x 4096 8 (by omega)
  have br1 := fl_bd x 32768 32 (by omega)
  have br2 := fl_bd x 1048576 32 (by omega)
  have bf7 := fl_bd x 33554432 128 (by omega)
  have hr : dspec x = dsCap x := by simp [dspec, h]
  rw [hr]; clear hr
  go_enter Tryz.func33, Tryz.ntmps33
  go_wp2_with (first | (go_at_call 86; with_reducible refine (drd_w x x0 x1 _).mono ?_; rintro e' w1 ⟨rfl, rfl⟩) | (go_at_call 87; with_reducible refine (drs1_w x x0 x1 _).mono ?_; rintro e' w1 ⟨rfl, rfl⟩) | (go_at_call 90; with_reducible refine (drs2_w x x0 x1 _).mono ?_; rintro e' w1 ⟨rfl, rfl⟩) | (go_at_call 88; with_reducible refine (dimmI_w x x0 x1 _).mono ?_; rintro e' w1 ⟨rfl, rfl⟩) | (go_at_call 91; with_reducible refine (dimmS_w x x0 x1 _).mono ?_; rintro e' w1 ⟨rfl, rfl⟩) | (go_at_call 89; with_reducible refine (df3_w x x0 x1 _).mono ?_; rintro e' w1 ⟨rfl, rfl⟩) | (go_at_call 85; with_reducible refine (dop_w x x0 x1 _).mono ?_; rintro e' w1 ⟨rfl, rfl⟩; (try rw [h])) | (go_at_call 92; (with_reducible refine (dcap_w x x0 x1 _).mono ?_); rintro e' w2 ⟨⟨⟨op, fn, rd, r1, r2, imm, wid, wo, us⟩, ok, rfl, hs⟩, qk⟩; have HSw2 := Lib.hid hs; clear hs; dsimp only [Ins.v]; have HKw2 := Lib.hid qk; obtain ⟨qw20, qw21, qw22, qw23, qw24, qw25, qw26, qw27, qw28, qw29, qw210⟩ := qk.c11 (b := w.heap.size) (.int .i64 0) (.int .i64 0) (.int .i64 0) (.int .i64 0) (.int .i64 0) (.int .i64 0) (.int .i64 0) (.bool false) (.bool false) (.int .i64 0) (.int .u32 0); obtain ⟨zw20, zw21, zw22, zw23, zw24, zw25, zw26, zw27, zw28, zw29, zw210⟩ := qk.z11 (b := w.heap.size); have sz := qk.size; (try simp at sz); have KW := Lib.hid (Kp.trans ((Kp.refl w).allocs _ _) qk); have ql0 : w.heap.size < w2.heap.size := (by omega); have ql1 : ¬ w.heap.size = w2.heap.size := (by omega); have ql2 : ¬ w2.heap.size = w.heap.size := (by omega); clear qk))
  refine bodyPost_ret (v := .tuple #[Ins.v ⟨op, fn, rd, r1, r2, imm, wid, wo, us⟩ 0 0, .bool (ok)]) (by simp [results, Tryz.results33, go_sem, Ins.v, *]) rfl ⟨RdP.mk ⟨op, fn, rd, r1, r2, imm, wid, wo, us⟩ (ok) rfl (HSw2.out), by (repeat' (first | with_reducible refine Kp.setCell ?_ ?_ _ | with_reducible refine Kp.allocs ?_ _ _ | with_reducible refine Kp.drew ?_ | with_reducible refine Kp.drewN ?_ _)); all_goals first | exact KW.out | (dsimp only; omega)⟩
set_option maxHeartbeats 4000000 in
theorem dread_n (x : Int) (x0 : 0 ≤ x) (x1 : x < 4294967296) (h : ¬ fl x 1 128 = 15 ∧ ¬ fl x 1 128 = 35 ∧ ¬ fl x 1 128 = 91) (w : World) :
    Calls Tryz.prog 33 #[.int .u32 x] w fun e w' => RdP e (dspec x) ∧ Kp w w' := by
  have brd := fl_bd x 128 32 (by omega)
  have bf3 := fl_bd x 4096 8 (by omega)
  have br1 := fl_bd x 32768 32 (by omega)
  have br2 := fl_bd x 1048576 32 (by omega)
  have bf7 := fl_bd x 33554432 128 (by omega)
  have hs : dspec x = none := by simp [dspec, h]
  have t0 : (fl x 1 128 == 15) = false := by simp; omega
  have t1 : (fl x 1 128 == 35) = false := by simp; omega
  have t2 : (fl x 1 128 == 91) = false := by simp; omega
  clear h
  go_enter Tryz.func33, Tryz.ntmps33
  go_wp2_with (first | (go_at_call 85; with_reducible refine (dop_w x x0 x1 _).mono ?_; rintro e' w1 ⟨rfl, rfl⟩))
  refine bodyPost_ret (v := .tuple #[Ins.v zIns 0 0, .bool (false)]) (by simp [results, Tryz.results33, go_sem, Ins.v, zIns, *]) rfl ⟨RdP.mk zIns (false) rfl (hs), by (repeat' (first | with_reducible refine Kp.setCell ?_ ?_ _ | with_reducible refine Kp.allocs ?_ _ _ | with_reducible refine Kp.drew ?_ | with_reducible refine Kp.drewN ?_ _)); all_goals first | exact Kp.refl w | (dsimp only; omega)⟩
theorem dread_w (x : Int) (x0 : 0 ≤ x) (x1 : x < 4294967296) (w : World) :
    Calls Tryz.prog 33 #[.int .u32 x] w fun e w' => RdP e (dspec x) ∧ Kp w w' := by
  by_cases h1 : fl x 1 128 = 15
  · exact dread_15 x x0 x1 h1 w
  by_cases h2 : fl x 1 128 = 35
  · exact dread_35 x x0 x1 h2 w
  by_cases h3 : fl x 1 128 = 91
  · exact dread_91 x x0 x1 h3 w
  · exact dread_n x x0 x1 ⟨h1, h2, h3⟩ w
/-- What Decode returns of the word x, where the document says o. -/
def ddV (o : Option Ins) (x : Int) : Value := match o with
  | none => .tuple #[zIns.v 0 0, .bool false]
  | some i => .tuple #[i.v 4 x, .bool true]
set_option maxHeartbeats 4000000 in
theorem ddec_w (x : Int) (x0 : 0 ≤ x) (x1 : x < 4294967296) (w : World) :
    Calls Tryz.prog 20 #[.int .u32 x] w fun e w' => e = .returned (ddV (dspec x) x) ∧ Kp w w' := by
  go_enter Tryz.func20, Tryz.ntmps20
  go_wp2_with (first | (go_at_call 33; (with_reducible refine (dread_w x x0 x1 _).mono ?_); rintro e' w2 ⟨⟨⟨op, fn, rd, r1, r2, imm, wid, wo, us⟩, ok, rfl, hs⟩, qk⟩; have HSw2 := Lib.hid hs; clear hs; dsimp only [Ins.v]; have HKw2 := Lib.hid qk; obtain ⟨qw20, qw21, qw22, qw23, qw24, qw25, qw26, qw27, qw28, qw29, qw210⟩ := qk.c11 (b := w.heap.size) (.int .i64 0) (.int .i64 0) (.int .i64 0) (.int .i64 0) (.int .i64 0) (.int .i64 0) (.int .i64 0) (.bool false) (.bool false) (.int .i64 0) (.int .u32 0); obtain ⟨zw20, zw21, zw22, zw23, zw24, zw25, zw26, zw27, zw28, zw29, zw210⟩ := qk.z11 (b := w.heap.size); have sz := qk.size; (try simp at sz); have KW := Lib.hid (Kp.trans ((Kp.refl w).allocs _ _) qk); have ql0 : w.heap.size < w2.heap.size := (by omega); have ql1 : ¬ w.heap.size = w2.heap.size := (by omega); have ql2 : ¬ w2.heap.size = w.heap.size := (by omega); cases ok; clear qk))
  all_goals
    have hs := HSw2.out
    simp only [if_true, Bool.false_eq_true, if_false] at hs
    rw [hs]
    dsimp only [ddV, Ins.v, zIns]
    refine bodyPost_ret ?_ rfl ⟨rfl, by (repeat' (first | with_reducible refine Kp.setCell ?_ ?_ _ | with_reducible refine Kp.allocs ?_ _ _ | with_reducible refine Kp.drew ?_ | with_reducible refine Kp.drewN ?_ _)); all_goals first | exact KW.out | (dsimp only; omega)⟩
    simp [results, Tryz.results20, go_sem, *]
theorem ddec_at (x : Int) (x0 : 0 ≤ x) (x1 : x < 4294967296) (o : Option Ins) (ho : dspec x = o) (w : World) :
    Calls Tryz.prog 20 #[.int .u32 x] w fun e w' => e = .returned (ddV o x) ∧ Kp w w' := by subst ho; exact ddec_w x x0 x1 w
end Go.Proofs.YtlfeandnpflaaaaGreatDoor
