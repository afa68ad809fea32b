/-
  Contracts of the document's row and Decode for layer 9. No condition.
-/
import Derived.Test.YtlfeandnpflaaaaGreatDoorDPlain
import Derived.Test.YtlfeandnpflaaaaGreatDoorDDec
namespace Go.Proofs.YtlfeandnpflaaaaGreatDoor
open Go.ChangeShapes Go.WideShapes Go.ChangeAt Go.RowKit
set_option linter.unusedVariables false
set_option linter.unusedSimpArgs false

theorem rplain_l (x : Int) (x0 : 0 ≤ x) (x1 : x < 4294967296) (w : World) :
    Calls Tryz.prog 42 #[.int .u32 x, .agg #[.int .i64 0, .int .i64 0, .int .i64 ((fl x 128 32)), .int .i64 ((fl x 32768 32)), .int .i64 ((fl x 1048576 32)), .int .i64 0, .int .i64 0, .bool false, .bool false, .int .i64 4, .int .u32 x]] w fun e w' => RdQ9 e x (dsReg x) ∧ Kp w w' := rplain_w x x0 x1 w
set_option maxRecDepth 4000 in
set_option maxHeartbeats 4000000 in
theorem row_plain (x : Int) (x0 : 0 ≤ x) (x1 : x < 4294967296) (h : fl x 1 128 = 91) (h2 : fl x 4096 8 = 0) (w : World) :
    Calls Tryz.prog 24 #[.int .u32 x] w fun e w' => RdQ9 e x (dspec x) ∧ Kp w w' := by
  have brd := fl_bd x 128 32 (by omega)
  have bf3 := fl_bd x 4096 8 (by omega)
  have br1 := fl_bd x 32768 32 (by omega)
  have br2 := fl_bd x 1048576 32 (by omega)
  have bf7 := fl_bd x 33554432 128 (by omega)
  have bop := fl_bd x 1 128 (by omega)
  have hr : dspec x = dsReg x := by simp [dspec, dsCap, h, h2]
  rw [hr]; clear hr
  have t0 : (fl x 1 128 == 91) = true := by simp; omega
  have t1 : (fl x 4096 8 == 0) = true := by simp; omega
  clear h h2
  go_enter Tryz.func24, Tryz.ntmps24
  go_wp2_with (first | (go_at_call 34; with_reducible refine (rf_11_7 x x0 x1 _).mono ?_; rintro e' w1 ⟨rfl, rfl⟩) | (go_at_call 34; with_reducible refine (rf_19_15 x x0 x1 _).mono ?_; rintro e' w1 ⟨rfl, rfl⟩) | (go_at_call 34; with_reducible refine (rf_24_20 x x0 x1 _).mono ?_; rintro e' w1 ⟨rfl, rfl⟩) | (go_at_call 34; with_reducible refine (rf_6_0 x x0 x1 _).mono ?_; rintro e' w1 ⟨rfl, rfl⟩) | (go_at_call 34; with_reducible refine (rf_14_12 x x0 x1 _).mono ?_; rintro e' w1 ⟨rfl, rfl⟩) | (go_at_call 34; with_reducible refine (rf_31_20 x x0 x1 _).mono ?_; rintro e' w1 ⟨rfl, rfl⟩) | (go_at_call 44; with_reducible refine (rI_w x x0 x1 _).mono ?_; rintro e' w1 ⟨rfl, rfl⟩) | (go_at_call 43; with_reducible refine (rS_w x x0 x1 _).mono ?_; rintro e' w1 ⟨rfl, rfl⟩) | (go_at_call 42; (with_reducible refine (rplain_l x x0 x1 _).mono ?_); rintro e' w2 ⟨⟨⟨op, fn, rd, r1, r2, imm, wid, wo, us⟩, len, raw, ok, rfl, hs, hl⟩, qk⟩; have HL := Lib.hid hl; clear hl; have HSw2 := Lib.hid hs; clear hs; dsimp only [Ins.v]; have HKw2 := Lib.hid qk; obtain ⟨qw20, qw21, qw22, qw23, qw24, qw25, qw26, qw27, qw28, qw29, qw210⟩ := qk.c11 (b := w.heap.size) (.int .i64 0) (.int .i64 0) (.int .i64 0) (.int .i64 0) (.int .i64 0) (.int .i64 0) (.int .i64 0) (.bool false) (.bool false) (.int .i64 0) (.int .u32 0); obtain ⟨zw20, zw21, zw22, zw23, zw24, zw25, zw26, zw27, zw28, zw29, zw210⟩ := qk.z11 (b := w.heap.size); have sz := qk.size; (try simp at sz); have KW := Lib.hid (Kp.trans (((Kp.refl w).allocs _ _).allocs _ _) qk); have ql0 : w.heap.size < w2.heap.size := (by omega); have ql1 : ¬ w.heap.size = w2.heap.size := (by omega); have ql2 : ¬ w2.heap.size = w.heap.size := (by omega); clear qk))
  refine bodyPost_ret (v := .tuple #[Ins.v ⟨op, fn, rd, r1, r2, imm, wid, wo, us⟩ len raw, .bool ok]) (by simp [results, Tryz.results24, go_sem, Ins.v, *]) rfl ⟨RdQ9.mk ⟨op, fn, rd, r1, r2, imm, wid, wo, us⟩ len raw ok rfl HSw2.out HL.out, by (repeat' (first | with_reducible refine Kp.setCell ?_ ?_ _ | with_reducible refine Kp.allocs ?_ _ _ | with_reducible refine Kp.drew ?_ | with_reducible refine Kp.drewN ?_ _)); all_goals first | exact KW.out | (dsimp only; omega)⟩
set_option maxRecDepth 4000 in
set_option maxHeartbeats 4000000 in
theorem row_35 (x : Int) (x0 : 0 ≤ x) (x1 : x < 4294967296) (h : fl x 1 128 = 35) (w : World) :
    Calls Tryz.prog 24 #[.int .u32 x] w fun e w' => RdQ9 e x (dspec x) ∧ Kp w w' := by
  have brd := fl_bd x 128 32 (by omega)
  have bf3 := fl_bd x 4096 8 (by omega)
  have br1 := fl_bd x 32768 32 (by omega)
  have br2 := fl_bd x 1048576 32 (by omega)
  have bf7 := fl_bd x 33554432 128 (by omega)
  have bop := fl_bd x 1 128 (by omega)
  have hs : dspec x = (if fl x 4096 8 == 4 then some ⟨7, 0, 0, (fl x 32768 32), (fl x 1048576 32), iS x, 7, false, false⟩ else none) := by simp [dspec, h]
  have t0 : (fl x 1 128 == 91) = false := by simp; omega
  have t1 : (fl x 1 128 == 35) = true := by simp; omega
  have HS := Lib.hid hs
  clear hs h
  go_enter Tryz.func24, Tryz.ntmps24
  go_wp2_with (first | (go_at_call 34; with_reducible refine (rf_11_7 x x0 x1 _).mono ?_; rintro e' w1 ⟨rfl, rfl⟩) | (go_at_call 34; with_reducible refine (rf_19_15 x x0 x1 _).mono ?_; rintro e' w1 ⟨rfl, rfl⟩) | (go_at_call 34; with_reducible refine (rf_24_20 x x0 x1 _).mono ?_; rintro e' w1 ⟨rfl, rfl⟩) | (go_at_call 34; with_reducible refine (rf_6_0 x x0 x1 _).mono ?_; rintro e' w1 ⟨rfl, rfl⟩) | (go_at_call 34; with_reducible refine (rf_14_12 x x0 x1 _).mono ?_; rintro e' w1 ⟨rfl, rfl⟩) | (go_at_call 34; with_reducible refine (rf_31_20 x x0 x1 _).mono ?_; rintro e' w1 ⟨rfl, rfl⟩) | (go_at_call 44; with_reducible refine (rI_w x x0 x1 _).mono ?_; rintro e' w1 ⟨rfl, rfl⟩) | (go_at_call 43; with_reducible refine (rS_w x x0 x1 _).mono ?_; rintro e' w1 ⟨rfl, rfl⟩))
  refine bodyPost_ret (v := .tuple #[Ins.v ⟨7, 0, 0, (fl x 32768 32), (fl x 1048576 32), iS x, 7, false, false⟩ 4 x, .bool (fl x 4096 8 == 4)]) (by simp [results, Tryz.results24, go_sem, Ins.v, *]) rfl ⟨RdQ9.mk ⟨7, 0, 0, (fl x 32768 32), (fl x 1048576 32), iS x, 7, false, false⟩ 4 x (fl x 4096 8 == 4) rfl (HS.out) (fun _ => ⟨rfl, rfl⟩), by (repeat' (first | with_reducible refine Kp.setCell ?_ ?_ _ | with_reducible refine Kp.allocs ?_ _ _ | with_reducible refine Kp.drew ?_ | with_reducible refine Kp.drewN ?_ _)); all_goals first | exact Kp.refl w | (dsimp only; omega)⟩
set_option maxRecDepth 4000 in
set_option maxHeartbeats 4000000 in
theorem row_15 (x : Int) (x0 : 0 ≤ x) (x1 : x < 4294967296) (h : fl x 1 128 = 15) (w : World) :
    Calls Tryz.prog 24 #[.int .u32 x] w fun e w' => RdQ9 e x (dspec x) ∧ Kp w w' := by
  have brd := fl_bd x 128 32 (by omega)
  have bf3 := fl_bd x 4096 8 (by omega)
  have br1 := fl_bd x 32768 32 (by omega)
  have br2 := fl_bd x 1048576 32 (by omega)
  have bf7 := fl_bd x 33554432 128 (by omega)
  have bop := fl_bd x 1 128 (by omega)
  have hs : dspec x = (if fl x 4096 8 == 2 then some ⟨6, 0, (fl x 128 32), (fl x 32768 32), 0, iI x, 7, false, false⟩ else none) := by simp [dspec, h]
  have t0 : (fl x 1 128 == 91) = false := by simp; omega
  have t1 : (fl x 1 128 == 35) = false := by simp; omega
  have t2 : (fl x 1 128 == 15) = true := by simp; omega
  have HS := Lib.hid hs
  clear hs h
  go_enter Tryz.func24, Tryz.ntmps24
  go_wp2_with (first | (go_at_call 34; with_reducible refine (rf_11_7 x x0 x1 _).mono ?_; rintro e' w1 ⟨rfl, rfl⟩) | (go_at_call 34; with_reducible refine (rf_19_15 x x0 x1 _).mono ?_; rintro e' w1 ⟨rfl, rfl⟩) | (go_at_call 34; with_reducible refine (rf_24_20 x x0 x1 _).mono ?_; rintro e' w1 ⟨rfl, rfl⟩) | (go_at_call 34; with_reducible refine (rf_6_0 x x0 x1 _).mono ?_; rintro e' w1 ⟨rfl, rfl⟩) | (go_at_call 34; with_reducible refine (rf_14_12 x x0 x1 _).mono ?_; rintro e' w1 ⟨rfl, rfl⟩) | (go_at_call 34; with_reducible refine (rf_31_20 x x0 x1 _).mono ?_; rintro e' w1 ⟨rfl, rfl⟩) | (go_at_call 44; with_reducible refine (rI_w x x0 x1 _).mono ?_; rintro e' w1 ⟨rfl, rfl⟩) | (go_at_call 43; with_reducible refine (rS_w x x0 x1 _).mono ?_; rintro e' w1 ⟨rfl, rfl⟩))
  refine bodyPost_ret (v := .tuple #[Ins.v ⟨6, 0, (fl x 128 32), (fl x 32768 32), 0, iI x, 7, false, false⟩ 4 x, .bool (fl x 4096 8 == 2)]) (by simp [results, Tryz.results24, go_sem, Ins.v, *]) rfl ⟨RdQ9.mk ⟨6, 0, (fl x 128 32), (fl x 32768 32), 0, iI x, 7, false, false⟩ 4 x (fl x 4096 8 == 2) rfl (HS.out) (fun _ => ⟨rfl, rfl⟩), by (repeat' (first | with_reducible refine Kp.setCell ?_ ?_ _ | with_reducible refine Kp.allocs ?_ _ _ | with_reducible refine Kp.drew ?_ | with_reducible refine Kp.drewN ?_ _)); all_goals first | exact Kp.refl w | (dsimp only; omega)⟩
set_option maxRecDepth 4000 in
set_option maxHeartbeats 4000000 in
theorem row_91_1 (x : Int) (x0 : 0 ≤ x) (x1 : x < 4294967296) (h : fl x 1 128 = 91) (h2 : fl x 4096 8 = 1) (w : World) :
    Calls Tryz.prog 24 #[.int .u32 x] w fun e w' => RdQ9 e x (dspec x) ∧ Kp w w' := by
  have brd := fl_bd x 128 32 (by omega)
  have bf3 := fl_bd x 4096 8 (by omega)
  have br1 := fl_bd x 32768 32 (by omega)
  have br2 := fl_bd x 1048576 32 (by omega)
  have bf7 := fl_bd x 33554432 128 (by omega)
  have bop := fl_bd x 1 128 (by omega)
  have hs : dspec x = some ⟨25, 1, (fl x 128 32), (fl x 32768 32), 0, iI x, 0, false, false⟩ := by simp [dspec, dsCap, h, h2]
  have HS := Lib.hid hs
  clear hs
  go_enter Tryz.func24, Tryz.ntmps24
  go_wp2_with (first | (go_at_call 34; with_reducible refine (rf_11_7 x x0 x1 _).mono ?_; rintro e' w1 ⟨rfl, rfl⟩) | (go_at_call 34; with_reducible refine (rf_19_15 x x0 x1 _).mono ?_; rintro e' w1 ⟨rfl, rfl⟩) | (go_at_call 34; with_reducible refine (rf_24_20 x x0 x1 _).mono ?_; rintro e' w1 ⟨rfl, rfl⟩) | (go_at_call 34; with_reducible refine (rf_6_0 x x0 x1 _).mono ?_; rintro e' w1 ⟨rfl, rfl⟩; (try rw [h])) | (go_at_call 34; with_reducible refine (rf_31_20 x x0 x1 _).mono ?_; rintro e' w1 ⟨rfl, rfl⟩) | (go_at_call 44; with_reducible refine (rI_w x x0 x1 _).mono ?_; rintro e' w1 ⟨rfl, rfl⟩) | (go_at_call 43; with_reducible refine (rS_w x x0 x1 _).mono ?_; rintro e' w1 ⟨rfl, rfl⟩) | (go_at_call 34; with_reducible refine (rf_14_12 x x0 x1 _).mono ?_; rintro e' w1 ⟨rfl, rfl⟩; (try rw [h2])))
  refine bodyPost_ret (v := .tuple #[Ins.v ⟨25, 1, (fl x 128 32), (fl x 32768 32), 0, iI x, 0, false, false⟩ 4 x, .bool true]) (by simp [results, Tryz.results24, go_sem, Ins.v, *]) rfl ⟨RdQ9.mk ⟨25, 1, (fl x 128 32), (fl x 32768 32), 0, iI x, 0, false, false⟩ 4 x true rfl (HS.out) (fun _ => ⟨rfl, rfl⟩), by (repeat' (first | with_reducible refine Kp.setCell ?_ ?_ _ | with_reducible refine Kp.allocs ?_ _ _ | with_reducible refine Kp.drew ?_ | with_reducible refine Kp.drewN ?_ _)); all_goals first | exact Kp.refl w | (dsimp only; omega)⟩
set_option maxRecDepth 4000 in
set_option maxHeartbeats 4000000 in
theorem row_91_2 (x : Int) (x0 : 0 ≤ x) (x1 : x < 4294967296) (h : fl x 1 128 = 91) (h2 : fl x 4096 8 = 2) (w : World) :
    Calls Tryz.prog 24 #[.int .u32 x] w fun e w' => RdQ9 e x (dspec x) ∧ Kp w w' := by
  have brd := fl_bd x 128 32 (by omega)
  have bf3 := fl_bd x 4096 8 (by omega)
  have br1 := fl_bd x 32768 32 (by omega)
  have br2 := fl_bd x 1048576 32 (by omega)
  have bf7 := fl_bd x 33554432 128 (by omega)
  have bop := fl_bd x 1 128 (by omega)
  have hs : dspec x = some ⟨25, 2, (fl x 128 32), (fl x 32768 32), 0, fl x 1048576 4096, 0, false, false⟩ := by simp [dspec, dsCap, h, h2]
  have HS := Lib.hid hs
  clear hs
  go_enter Tryz.func24, Tryz.ntmps24
  go_wp2_with (first | (go_at_call 34; with_reducible refine (rf_11_7 x x0 x1 _).mono ?_; rintro e' w1 ⟨rfl, rfl⟩) | (go_at_call 34; with_reducible refine (rf_19_15 x x0 x1 _).mono ?_; rintro e' w1 ⟨rfl, rfl⟩) | (go_at_call 34; with_reducible refine (rf_24_20 x x0 x1 _).mono ?_; rintro e' w1 ⟨rfl, rfl⟩) | (go_at_call 34; with_reducible refine (rf_6_0 x x0 x1 _).mono ?_; rintro e' w1 ⟨rfl, rfl⟩; (try rw [h])) | (go_at_call 34; with_reducible refine (rf_31_20 x x0 x1 _).mono ?_; rintro e' w1 ⟨rfl, rfl⟩) | (go_at_call 44; with_reducible refine (rI_w x x0 x1 _).mono ?_; rintro e' w1 ⟨rfl, rfl⟩) | (go_at_call 43; with_reducible refine (rS_w x x0 x1 _).mono ?_; rintro e' w1 ⟨rfl, rfl⟩) | (go_at_call 34; with_reducible refine (rf_14_12 x x0 x1 _).mono ?_; rintro e' w1 ⟨rfl, rfl⟩; (try rw [h2])))
  refine bodyPost_ret (v := .tuple #[Ins.v ⟨25, 2, (fl x 128 32), (fl x 32768 32), 0, fl x 1048576 4096, 0, false, false⟩ 4 x, .bool true]) (by simp [results, Tryz.results24, go_sem, Ins.v, *]) rfl ⟨RdQ9.mk ⟨25, 2, (fl x 128 32), (fl x 32768 32), 0, fl x 1048576 4096, 0, false, false⟩ 4 x true rfl (HS.out) (fun _ => ⟨rfl, rfl⟩), by (repeat' (first | with_reducible refine Kp.setCell ?_ ?_ _ | with_reducible refine Kp.allocs ?_ _ _ | with_reducible refine Kp.drew ?_ | with_reducible refine Kp.drewN ?_ _)); all_goals first | exact Kp.refl w | (dsimp only; omega)⟩
set_option maxRecDepth 4000 in
set_option maxHeartbeats 4000000 in
theorem row_91_n (x : Int) (x0 : 0 ≤ x) (x1 : x < 4294967296) (h : fl x 1 128 = 91) (h2 : 2 < fl x 4096 8) (w : World) :
    Calls Tryz.prog 24 #[.int .u32 x] w fun e w' => RdQ9 e x (dspec x) ∧ Kp w w' := by
  have brd := fl_bd x 128 32 (by omega)
  have bf3 := fl_bd x 4096 8 (by omega)
  have br1 := fl_bd x 32768 32 (by omega)
  have br2 := fl_bd x 1048576 32 (by omega)
  have bf7 := fl_bd x 33554432 128 (by omega)
  have bop := fl_bd x 1 128 (by omega)
  have hs : dspec x = none := by simp [dspec, dsCap, h, show ¬ fl x 4096 8 = 0 by omega, show ¬ fl x 4096 8 = 1 by omega, show ¬ fl x 4096 8 = 2 by omega]
  have t0 : (fl x 1 128 == 91) = true := by simp; omega
  have t1 : (fl x 4096 8 == 0) = false := by simp; omega
  have t2 : (fl x 1 128 == 35) = false := by simp; omega
  have t3 : (fl x 1 128 == 15) = false := by simp; omega
  have t4 : (fl x 4096 8 == 1) = false := by simp; omega
  have t5 : (fl x 4096 8 == 2) = false := by simp; omega
  have HS := Lib.hid hs
  clear hs h h2
  go_enter Tryz.func24, Tryz.ntmps24
  go_wp2_with (first | (go_at_call 34; with_reducible refine (rf_11_7 x x0 x1 _).mono ?_; rintro e' w1 ⟨rfl, rfl⟩) | (go_at_call 34; with_reducible refine (rf_19_15 x x0 x1 _).mono ?_; rintro e' w1 ⟨rfl, rfl⟩) | (go_at_call 34; with_reducible refine (rf_24_20 x x0 x1 _).mono ?_; rintro e' w1 ⟨rfl, rfl⟩) | (go_at_call 34; with_reducible refine (rf_6_0 x x0 x1 _).mono ?_; rintro e' w1 ⟨rfl, rfl⟩) | (go_at_call 34; with_reducible refine (rf_14_12 x x0 x1 _).mono ?_; rintro e' w1 ⟨rfl, rfl⟩) | (go_at_call 34; with_reducible refine (rf_31_20 x x0 x1 _).mono ?_; rintro e' w1 ⟨rfl, rfl⟩) | (go_at_call 44; with_reducible refine (rI_w x x0 x1 _).mono ?_; rintro e' w1 ⟨rfl, rfl⟩) | (go_at_call 43; with_reducible refine (rS_w x x0 x1 _).mono ?_; rintro e' w1 ⟨rfl, rfl⟩))
  refine bodyPost_ret (v := .tuple #[Ins.v ⟨25, (fl x 4096 8), (fl x 128 32), (fl x 32768 32), 0, iI x, 0, false, false⟩ 4 x, .bool (false)]) (by simp [results, Tryz.results24, go_sem, Ins.v, *]) rfl ⟨RdQ9.mk ⟨25, (fl x 4096 8), (fl x 128 32), (fl x 32768 32), 0, iI x, 0, false, false⟩ 4 x (false) rfl (HS.out) (fun _ => ⟨rfl, rfl⟩), by (repeat' (first | with_reducible refine Kp.setCell ?_ ?_ _ | with_reducible refine Kp.allocs ?_ _ _ | with_reducible refine Kp.drew ?_ | with_reducible refine Kp.drewN ?_ _)); all_goals first | exact Kp.refl w | (dsimp only; omega)⟩
set_option maxRecDepth 4000 in
set_option maxHeartbeats 4000000 in
theorem row_n1 (x : Int) (x0 : 0 ≤ x) (x1 : x < 4294967296) (h : ¬ fl x 1 128 = 91) (h1 : ¬ fl x 1 128 = 35) (h2 : ¬ fl x 1 128 = 15) (h3 : fl x 4096 8 = 2) (w : World) :
    Calls Tryz.prog 24 #[.int .u32 x] w fun e w' => RdQ9 e x (dspec x) ∧ Kp w w' := by
  have brd := fl_bd x 128 32 (by omega)
  have bf3 := fl_bd x 4096 8 (by omega)
  have br1 := fl_bd x 32768 32 (by omega)
  have br2 := fl_bd x 1048576 32 (by omega)
  have bf7 := fl_bd x 33554432 128 (by omega)
  have bop := fl_bd x 1 128 (by omega)
  have hs : dspec x = none := by simp [dspec, h, h1, h2]
  have t0 : (fl x 1 128 == 91) = false := by simp; omega
  have t1 : (fl x 1 128 == 35) = false := by simp; omega
  have t2 : (fl x 1 128 == 15) = false := by simp; omega
  have t3 : (fl x 4096 8 == 2) = true := by simp; omega
  have HS := Lib.hid hs
  clear hs h h1 h2 h3
  go_enter Tryz.func24, Tryz.ntmps24
  go_wp2_with (first | (go_at_call 34; with_reducible refine (rf_11_7 x x0 x1 _).mono ?_; rintro e' w1 ⟨rfl, rfl⟩) | (go_at_call 34; with_reducible refine (rf_19_15 x x0 x1 _).mono ?_; rintro e' w1 ⟨rfl, rfl⟩) | (go_at_call 34; with_reducible refine (rf_24_20 x x0 x1 _).mono ?_; rintro e' w1 ⟨rfl, rfl⟩) | (go_at_call 34; with_reducible refine (rf_6_0 x x0 x1 _).mono ?_; rintro e' w1 ⟨rfl, rfl⟩) | (go_at_call 34; with_reducible refine (rf_14_12 x x0 x1 _).mono ?_; rintro e' w1 ⟨rfl, rfl⟩) | (go_at_call 34; with_reducible refine (rf_31_20 x x0 x1 _).mono ?_; rintro e' w1 ⟨rfl, rfl⟩) | (go_at_call 44; with_reducible refine (rI_w x x0 x1 _).mono ?_; rintro e' w1 ⟨rfl, rfl⟩) | (go_at_call 43; with_reducible refine (rS_w x x0 x1 _).mono ?_; rintro e' w1 ⟨rfl, rfl⟩))
  refine bodyPost_ret (v := .tuple #[Ins.v ⟨25, (fl x 4096 8), (fl x 128 32), (fl x 32768 32), 0, fl x 1048576 4096, 0, false, false⟩ 4 x, .bool (false)]) (by simp [results, Tryz.results24, go_sem, Ins.v, *]) rfl ⟨RdQ9.mk ⟨25, (fl x 4096 8), (fl x 128 32), (fl x 32768 32), 0, fl x 1048576 4096, 0, false, false⟩ 4 x (false) rfl (HS.out) (fun _ => ⟨rfl, rfl⟩), by (repeat' (first | with_reducible refine Kp.setCell ?_ ?_ _ | with_reducible refine Kp.allocs ?_ _ _ | with_reducible refine Kp.drew ?_ | with_reducible refine Kp.drewN ?_ _)); all_goals first | exact Kp.refl w | (dsimp only; omega)⟩
set_option maxRecDepth 4000 in
set_option maxHeartbeats 4000000 in
theorem row_n2 (x : Int) (x0 : 0 ≤ x) (x1 : x < 4294967296) (h : ¬ fl x 1 128 = 91) (h1 : ¬ fl x 1 128 = 35) (h2 : ¬ fl x 1 128 = 15) (h3 : ¬ fl x 4096 8 = 2) (w : World) :
    Calls Tryz.prog 24 #[.int .u32 x] w fun e w' => RdQ9 e x (dspec x) ∧ Kp w w' := by
  have brd := fl_bd x 128 32 (by omega)
  have bf3 := fl_bd x 4096 8 (by omega)
  have br1 := fl_bd x 32768 32 (by omega)
  have br2 := fl_bd x 1048576 32 (by omega)
  have bf7 := fl_bd x 33554432 128 (by omega)
  have bop := fl_bd x 1 128 (by omega)
  have hs : dspec x = none := by simp [dspec, h, h1, h2]
  have t0 : (fl x 1 128 == 91) = false := by simp; omega
  have t1 : (fl x 1 128 == 35) = false := by simp; omega
  have t2 : (fl x 1 128 == 15) = false := by simp; omega
  have t3 : (fl x 4096 8 == 2) = false := by simp; omega
  have HS := Lib.hid hs
  clear hs h h1 h2 h3
  go_enter Tryz.func24, Tryz.ntmps24
  go_wp2_with (first | (go_at_call 34; with_reducible refine (rf_11_7 x x0 x1 _).mono ?_; rintro e' w1 ⟨rfl, rfl⟩) | (go_at_call 34; with_reducible refine (rf_19_15 x x0 x1 _).mono ?_; rintro e' w1 ⟨rfl, rfl⟩) | (go_at_call 34; with_reducible refine (rf_24_20 x x0 x1 _).mono ?_; rintro e' w1 ⟨rfl, rfl⟩) | (go_at_call 34; with_reducible refine (rf_6_0 x x0 x1 _).mono ?_; rintro e' w1 ⟨rfl, rfl⟩) | (go_at_call 34; with_reducible refine (rf_14_12 x x0 x1 _).mono ?_; rintro e' w1 ⟨rfl, rfl⟩) | (go_at_call 34; with_reducible refine (rf_31_20 x x0 x1 _).mono ?_; rintro e' w1 ⟨rfl, rfl⟩) | (go_at_call 44; with_reducible refine (rI_w x x0 x1 _).mono ?_; rintro e' w1 ⟨rfl, rfl⟩) | (go_at_call 43; with_reducible refine (rS_w x x0 x1 _).mono ?_; rintro e' w1 ⟨rfl, rfl⟩))
  refine bodyPost_ret (v := .tuple #[Ins.v ⟨25, (fl x 4096 8), (fl x 128 32), (fl x 32768 32), 0, iI x, 0, false, false⟩ 4 x, .bool (false)]) (by simp [results, Tryz.results24, go_sem, Ins.v, *]) rfl ⟨RdQ9.mk ⟨25, (fl x 4096 8), (fl x 128 32), (fl x 32768 32), 0, iI x, 0, false, false⟩ 4 x (false) rfl (HS.out) (fun _ => ⟨rfl, rfl⟩), by (repeat' (first | with_reducible refine Kp.setCell ?_ ?_ _ | with_reducible refine Kp.allocs ?_ _ _ | with_reducible refine Kp.drew ?_ | with_reducible refine Kp.drewN ?_ _)); all_goals first | exact Kp.refl w | (dsimp only; omega)⟩
theorem row_w (x : Int) (x0 : 0 ≤ x) (x1 : x < 4294967296) (w : World) :
    Calls Tryz.prog 24 #[.int .u32 x] w fun e w' => RdQ9 e x (dspec x) ∧ Kp w w' := by
  have bf3 := fl_bd x 4096 8 (by omega)
  by_cases h : fl x 1 128 = 91
  · rcases (show fl x 4096 8 = 0 ∨ fl x 4096 8 = 1 ∨ fl x 4096 8 = 2 ∨ 2 < fl x 4096 8 by omega) with h2 | h2 | h2 | h2
    · exact row_plain x x0 x1 h h2 w
    · exact row_91_1 x x0 x1 h h2 w
    · exact row_91_2 x x0 x1 h h2 w
    · exact row_91_n x x0 x1 h h2 w
  by_cases h1 : fl x 1 128 = 35
  · exact row_35 x x0 x1 h1 w
  by_cases h2 : fl x 1 128 = 15
  · exact row_15 x x0 x1 h2 w
  by_cases h3 : fl x 4096 8 = 2
  · exact row_n1 x x0 x1 h h1 h2 h3 w
  · exact row_n2 x x0 x1 h h1 h2 h3 w
set_option maxRecDepth 4000 in
set_option maxHeartbeats 4000000 in
theorem rdec9_w (x : Int) (x0 : 0 ≤ x) (x1 : x < 4294967296) (w : World) :
    Calls Tryz.prog 15 #[.int .u32 x] w fun e w' => e = .returned (ddV (dspec x) x) ∧ Kp w w' := by
  go_enter Tryz.func15, Tryz.ntmps15
  go_wp2_with (first | (go_at_call 24; (with_reducible refine (row_w x x0 x1 _).mono ?_); rintro e' w2 ⟨⟨⟨op, fn, rd, r1, r2, imm, wid, wo, us⟩, len, raw, ok, rfl, hs, hl⟩, qk⟩; have HL := Lib.hid hl; clear hl; have HSw2 := Lib.hid hs; clear hs; dsimp only [Ins.v]; have HKw2 := Lib.hid qk; obtain ⟨qw20, qw21, qw22, qw23, qw24, qw25, qw26, qw27, qw28, qw29, qw210⟩ := qk.c11 (b := w.heap.size) (.int .i64 0) (.int .i64 0) (.int .i64 0) (.int .i64 0) (.int .i64 0) (.int .i64 0) (.int .i64 0) (.bool false) (.bool false) (.int .i64 0) (.int .u32 0); obtain ⟨zw20, zw21, zw22, zw23, zw24, zw25, zw26, zw27, zw28, zw29, zw210⟩ := qk.z11 (b := w.heap.size); have sz := qk.size; (try simp at sz); have KW := Lib.hid (Kp.trans ((Kp.refl w).allocs _ _) qk); have ql0 : w.heap.size < w2.heap.size := (by omega); have ql1 : ¬ w.heap.size = w2.heap.size := (by omega); have ql2 : ¬ w2.heap.size = w.heap.size := (by omega); cases ok; clear qk))
  · have hs := HSw2.out
    simp only [Bool.false_eq_true, if_false] at hs
    rw [hs]
    dsimp only [ddV, Ins.v, zIns]
    refine bodyPost_ret ?_ rfl ⟨rfl, by (repeat' (first | with_reducible refine Kp.setCell ?_ ?_ _ | with_reducible refine Kp.allocs ?_ _ _ | with_reducible refine Kp.drew ?_ | with_reducible refine Kp.drewN ?_ _)); all_goals first | exact KW.out | (dsimp only; omega)⟩
    simp [results, Tryz.results15, go_sem, *]
  · have hs := HSw2.out
    simp only [if_true] at hs
    obtain ⟨rfl, rfl⟩ := HL.out (by first | rfl | trivial)
    rw [hs]
    dsimp only [ddV, Ins.v, zIns]
    refine bodyPost_ret ?_ rfl ⟨rfl, by (repeat' (first | with_reducible refine Kp.setCell ?_ ?_ _ | with_reducible refine Kp.allocs ?_ _ _ | with_reducible refine Kp.drew ?_ | with_reducible refine Kp.drewN ?_ _)); all_goals first | exact KW.out | (dsimp only; omega)⟩
    simp [results, Tryz.results15, go_sem, *]
theorem rdec9_at (x : Int) (x0 : 0 ≤ x) (x1 : x < 4294967296) (o : Option Ins) (ho : dspec x = o) (w : World) :
    Calls Tryz.prog 15 #[.int .u32 x] w fun e w' => e = .returned (ddV o x) ∧ Kp w w' := by subst ho; exact rdec9_w x x0 x1 w
end Go.Proofs.YtlfeandnpflaaaaGreatDoor
