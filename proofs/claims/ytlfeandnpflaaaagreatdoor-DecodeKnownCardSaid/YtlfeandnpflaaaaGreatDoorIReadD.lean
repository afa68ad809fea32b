/-
  Contracts of base's readers: the system's words. No condition.
-/
import Derived.Test.YtlfeandnpflaaaaGreatDoorMC
namespace Go.Proofs.YtlfeandnpflaaaaGreatDoor
open Go.ChangeShapes Go.WideShapes Go.ChangeAt Go.RowKit
set_option linter.unusedVariables false
set_option linter.unusedSimpArgs false

set_option maxHeartbeats 2000000 in
theorem priv_w (x : Int) (x0 : 0 ≤ x) (x1 : x < 4294967296) (h : fl x 4096 8 = 0) (w : World) :
    Calls Tryz.prog 132 #[.int .u32 x] w fun e w' => RdP e (spSys x) ∧ Kp w w' := by
  have brd := fl_bd x 128 32 (by omega)
  have bf3 := fl_bd x 4096 8 (by omega)
  have br1 := fl_bd x 32768 32 (by omega)
  have br2 := fl_bd x 1048576 32 (by omega)
  have bf7 := fl_bd x 33554432 128 (by omega)
  rcases (show x = 115 ∨ x = 1048691 ∨ x = 807403635 ∨ x = 270532723 ∨ x = 273678451 ∨ (¬ x = 115 ∧ ¬ x = 1048691 ∧ ¬ x = 807403635 ∧ ¬ x = 270532723 ∧ ¬ x = 273678451 ∧ (fl x 33554432 128) = 9) ∨ (¬ x = 115 ∧ ¬ x = 1048691 ∧ ¬ x = 807403635 ∧ ¬ x = 270532723 ∧ ¬ x = 273678451 ∧ ¬ (fl x 33554432 128) = 9) by omega) with h2 | h2 | h2 | h2 | h2 | h2 | h2
  · have t0 : (x == 115) = true := by simp; omega
    have t1 : (x == 1048691) = false := by simp; omega
    have t2 : (x == 807403635) = false := by simp; omega
    have t3 : (x == 270532723) = false := by simp; omega
    have t4 : (x == 273678451) = false := by simp; omega
    have Hh := Lib.hid h
    have Hh2 := Lib.hid h2
    clear h h2
    go_enter Tryz.func132, Tryz.ntmps132
    go_wp2_with (first | (go_at_call 118; with_reducible refine (rd_w x x0 x1 _).mono ?_; rintro e' w1 ⟨rfl, rfl⟩) | (go_at_call 119; with_reducible refine (rs1_w x x0 x1 _).mono ?_; rintro e' w1 ⟨rfl, rfl⟩) | (go_at_call 127; with_reducible refine (rs2_w x x0 x1 _).mono ?_; rintro e' w1 ⟨rfl, rfl⟩) | (go_at_call 129; with_reducible refine (f7_w x x0 x1 _).mono ?_; rintro e' w1 ⟨rfl, rfl⟩))
    refine bodyPost_ret (v := .tuple #[Ins.v ⟨13, 0, 0, 0, 0, 0, 0, false, false⟩ 0 0, .bool (true)]) (by simp [results, Tryz.results132, go_sem, Ins.v]) rfl ⟨RdP.mk ⟨13, 0, 0, 0, 0, 0, 0, false, false⟩ (true) rfl (by have h := Hh.out; have h2 := Hh2.out; simp [spSys, h2]), by (repeat' (first | with_reducible refine Kp.setCell ?_ ?_ _ | with_reducible refine Kp.allocs ?_ _ _ | with_reducible refine Kp.drew ?_ | with_reducible refine Kp.drewN ?_ _)); all_goals first | exact Kp.refl w | (dsimp only; omega)⟩
  · have t0 : (x == 115) = false := by simp; omega
    have t1 : (x == 1048691) = true := by simp; omega
    have t2 : (x == 807403635) = false := by simp; omega
    have t3 : (x == 270532723) = false := by simp; omega
    have t4 : (x == 273678451) = false := by simp; omega
    have Hh := Lib.hid h
    have Hh2 := Lib.hid h2
    clear h h2
    go_enter Tryz.func132, Tryz.ntmps132
    go_wp2_with (first | (go_at_call 118; with_reducible refine (rd_w x x0 x1 _).mono ?_; rintro e' w1 ⟨rfl, rfl⟩) | (go_at_call 119; with_reducible refine (rs1_w x x0 x1 _).mono ?_; rintro e' w1 ⟨rfl, rfl⟩) | (go_at_call 127; with_reducible refine (rs2_w x x0 x1 _).mono ?_; rintro e' w1 ⟨rfl, rfl⟩) | (go_at_call 129; with_reducible refine (f7_w x x0 x1 _).mono ?_; rintro e' w1 ⟨rfl, rfl⟩))
    refine bodyPost_ret (v := .tuple #[Ins.v ⟨14, 0, 0, 0, 0, 0, 0, false, false⟩ 0 0, .bool (true)]) (by simp [results, Tryz.results132, go_sem, Ins.v]) rfl ⟨RdP.mk ⟨14, 0, 0, 0, 0, 0, 0, false, false⟩ (true) rfl (by have h := Hh.out; have h2 := Hh2.out; simp [spSys, h2]), by (repeat' (first | with_reducible refine Kp.setCell ?_ ?_ _ | with_reducible refine Kp.allocs ?_ _ _ | with_reducible refine Kp.drew ?_ | with_reducible refine Kp.drewN ?_ _)); all_goals first | exact Kp.refl w | (dsimp only; omega)⟩
  · have t0 : (x == 115) = false := by simp; omega
    have t1 : (x == 1048691) = false := by simp; omega
    have t2 : (x == 807403635) = true := by simp; omega
    have t3 : (x == 270532723) = false := by simp; omega
    have t4 : (x == 273678451) = false := by simp; omega
    have Hh := Lib.hid h
    have Hh2 := Lib.hid h2
    clear h h2
    go_enter Tryz.func132, Tryz.ntmps132
    go_wp2_with (first | (go_at_call 118; with_reducible refine (rd_w x x0 x1 _).mono ?_; rintro e' w1 ⟨rfl, rfl⟩) | (go_at_call 119; with_reducible refine (rs1_w x x0 x1 _).mono ?_; rintro e' w1 ⟨rfl, rfl⟩) | (go_at_call 127; with_reducible refine (rs2_w x x0 x1 _).mono ?_; rintro e' w1 ⟨rfl, rfl⟩) | (go_at_call 129; with_reducible refine (f7_w x x0 x1 _).mono ?_; rintro e' w1 ⟨rfl, rfl⟩))
    refine bodyPost_ret (v := .tuple #[Ins.v ⟨15, 0, 0, 0, 0, 0, 0, false, false⟩ 0 0, .bool (true)]) (by simp [results, Tryz.results132, go_sem, Ins.v]) rfl ⟨RdP.mk ⟨15, 0, 0, 0, 0, 0, 0, false, false⟩ (true) rfl (by have h := Hh.out; have h2 := Hh2.out; simp [spSys, h2]), by (repeat' (first | with_reducible refine Kp.setCell ?_ ?_ _ | with_reducible refine Kp.allocs ?_ _ _ | with_reducible refine Kp.drew ?_ | with_reducible refine Kp.drewN ?_ _)); all_goals first | exact Kp.refl w | (dsimp only; omega)⟩
  · have t0 : (x == 115) = false := by simp; omega
    have t1 : (x == 1048691) = false := by simp; omega
    have t2 : (x == 807403635) = false := by simp; omega
    have t3 : (x == 270532723) = true := by simp; omega
    have t4 : (x == 273678451) = false := by simp; omega
    have Hh := Lib.hid h
    have Hh2 := Lib.hid h2
    clear h h2
    go_enter Tryz.func132, Tryz.ntmps132
    go_wp2_with (first | (go_at_call 118; with_reducible refine (rd_w x x0 x1 _).mono ?_; rintro e' w1 ⟨rfl, rfl⟩) | (go_at_call 119; with_reducible refine (rs1_w x x0 x1 _).mono ?_; rintro e' w1 ⟨rfl, rfl⟩) | (go_at_call 127; with_reducible refine (rs2_w x x0 x1 _).mono ?_; rintro e' w1 ⟨rfl, rfl⟩) | (go_at_call 129; with_reducible refine (f7_w x x0 x1 _).mono ?_; rintro e' w1 ⟨rfl, rfl⟩))
    refine bodyPost_ret (v := .tuple #[Ins.v ⟨16, 0, 0, 0, 0, 0, 0, false, false⟩ 0 0, .bool (true)]) (by simp [results, Tryz.results132, go_sem, Ins.v]) rfl ⟨RdP.mk ⟨16, 0, 0, 0, 0, 0, 0, false, false⟩ (true) rfl (by have h := Hh.out; have h2 := Hh2.out; simp [spSys, h2]), by (repeat' (first | with_reducible refine Kp.setCell ?_ ?_ _ | with_reducible refine Kp.allocs ?_ _ _ | with_reducible refine Kp.drew ?_ | with_reducible refine Kp.drewN ?_ _)); all_goals first | exact Kp.refl w | (dsimp only; omega)⟩
  · have t0 : (x == 115) = false := by simp; omega
    have t1 : (x == 1048691) = false := by simp; omega
    have t2 : (x == 807403635) = false := by simp; omega
    have t3 : (x == 270532723) = false := by simp; omega
    have t4 : (x == 273678451) = true := by simp; omega
    have Hh := Lib.hid h
    have Hh2 := Lib.hid h2
    clear h h2
    go_enter Tryz.func132, Tryz.ntmps132
    go_wp2_with (first | (go_at_call 118; with_reducible refine (rd_w x x0 x1 _).mono ?_; rintro e' w1 ⟨rfl, rfl⟩) | (go_at_call 119; with_reducible refine (rs1_w x x0 x1 _).mono ?_; rintro e' w1 ⟨rfl, rfl⟩) | (go_at_call 127; with_reducible refine (rs2_w x x0 x1 _).mono ?_; rintro e' w1 ⟨rfl, rfl⟩) | (go_at_call 129; with_reducible refine (f7_w x x0 x1 _).mono ?_; rintro e' w1 ⟨rfl, rfl⟩))
    refine bodyPost_ret (v := .tuple #[Ins.v ⟨17, 0, 0, 0, 0, 0, 0, false, false⟩ 0 0, .bool (true)]) (by simp [results, Tryz.results132, go_sem, Ins.v]) rfl ⟨RdP.mk ⟨17, 0, 0, 0, 0, 0, 0, false, false⟩ (true) rfl (by have h := Hh.out; have h2 := Hh2.out; simp [spSys, h2]), by (repeat' (first | with_reducible refine Kp.setCell ?_ ?_ _ | with_reducible refine Kp.allocs ?_ _ _ | with_reducible refine Kp.drew ?_ | with_reducible refine Kp.drewN ?_ _)); all_goals first | exact Kp.refl w | (dsimp only; omega)⟩
  · have t0 : (x == 115) = false := by simp; omega
    have t1 : (x == 1048691) = false := by simp; omega
    have t2 : (x == 807403635) = false := by simp; omega
    have t3 : (x == 270532723) = false := by simp; omega
    have t4 : (x == 273678451) = false := by simp; omega
    have t5 : ((fl x 33554432 128) == 9) = true := by simp; omega
    have Hh := Lib.hid h
    have Hh2 := Lib.hid h2
    clear h h2
    go_enter Tryz.func132, Tryz.ntmps132
    go_wp2_with (first | (go_at_call 118; with_reducible refine (rd_w x x0 x1 _).mono ?_; rintro e' w1 ⟨rfl, rfl⟩) | (go_at_call 119; with_reducible refine (rs1_w x x0 x1 _).mono ?_; rintro e' w1 ⟨rfl, rfl⟩) | (go_at_call 127; with_reducible refine (rs2_w x x0 x1 _).mono ?_; rintro e' w1 ⟨rfl, rfl⟩) | (go_at_call 129; with_reducible refine (f7_w x x0 x1 _).mono ?_; rintro e' w1 ⟨rfl, rfl⟩))
    refine bodyPost_ret (v := .tuple #[Ins.v ⟨18, 0, 0, (fl x 32768 32), (fl x 1048576 32), 0, 0, false, false⟩ 0 0, .bool (fl x 128 32 == 0)]) (by simp [results, Tryz.results132, go_sem, Ins.v]) rfl ⟨RdP.mk ⟨18, 0, 0, (fl x 32768 32), (fl x 1048576 32), 0, 0, false, false⟩ (fl x 128 32 == 0) rfl (by have h := Hh.out; have h2 := Hh2.out; obtain ⟨g0, g1, g2, g3, g4, g5⟩ := h2; simp [spSys, h, g0, g1, g2, g3, g4, g5]), by (repeat' (first | with_reducible refine Kp.setCell ?_ ?_ _ | with_reducible refine Kp.allocs ?_ _ _ | with_reducible refine Kp.drew ?_ | with_reducible refine Kp.drewN ?_ _)); all_goals first | exact Kp.refl w | (dsimp only; omega)⟩
  · have t0 : (x == 115) = false := by simp; omega
    have t1 : (x == 1048691) = false := by simp; omega
    have t2 : (x == 807403635) = false := by simp; omega
    have t3 : (x == 270532723) = false := by simp; omega
    have t4 : (x == 273678451) = false := by simp; omega
    have t5 : ((fl x 33554432 128) == 9) = false := by simp; omega
    have Hh := Lib.hid h
    have Hh2 := Lib.hid h2
    clear h h2
    go_enter Tryz.func132, Tryz.ntmps132
    go_wp2_with (first | (go_at_call 118; with_reducible refine (rd_w x x0 x1 _).mono ?_; rintro e' w1 ⟨rfl, rfl⟩) | (go_at_call 119; with_reducible refine (rs1_w x x0 x1 _).mono ?_; rintro e' w1 ⟨rfl, rfl⟩) | (go_at_call 127; with_reducible refine (rs2_w x x0 x1 _).mono ?_; rintro e' w1 ⟨rfl, rfl⟩) | (go_at_call 129; with_reducible refine (f7_w x x0 x1 _).mono ?_; rintro e' w1 ⟨rfl, rfl⟩))
    refine bodyPost_ret (v := .tuple #[Ins.v ⟨18, 0, 0, (fl x 32768 32), (fl x 1048576 32), 0, 0, false, false⟩ 0 0, .bool (false)]) (by simp [results, Tryz.results132, go_sem, Ins.v]) rfl ⟨RdP.mk ⟨18, 0, 0, (fl x 32768 32), (fl x 1048576 32), 0, 0, false, false⟩ (false) rfl (by have h := Hh.out; have h2 := Hh2.out; obtain ⟨g0, g1, g2, g3, g4, g5⟩ := h2; simp [spSys, h, g0, g1, g2, g3, g4, g5]), by (repeat' (first | with_reducible refine Kp.setCell ?_ ?_ _ | with_reducible refine Kp.allocs ?_ _ _ | with_reducible refine Kp.drew ?_ | with_reducible refine Kp.drewN ?_ _)); all_goals first | exact Kp.refl w | (dsimp only; omega)⟩
set_option maxHeartbeats 2000000 in
theorem sys_n (x : Int) (x0 : 0 ≤ x) (x1 : x < 4294967296) (h : ¬ fl x 4096 8 = 0) (w : World) :
    Calls Tryz.prog 83 #[.int .u32 x] w fun e w' => RdP e (spSys x) ∧ Kp w w' := by
  have brd := fl_bd x 128 32 (by omega)
  have bf3 := fl_bd x 4096 8 (by omega)
  have br1 := fl_bd x 32768 32 (by omega)
  have br2 := fl_bd x 1048576 32 (by omega)
  have bf7 := fl_bd x 33554432 128 (by omega)
  have bc := fl_bd x 1048576 4096 (by omega)
  have hc : (fl x 4096 8).tmod 4 = fl x 4096 8 % 4 := Int.tmod_eq_emod_of_nonneg (by omega)
  · have t0 : (fl x 4096 8 == 0) = false := by simp; omega
    have Hh := Lib.hid h
    clear h
    go_enter Tryz.func83, Tryz.ntmps83
    go_wp2_with (first | (go_at_call 117; with_reducible refine (f3_w x x0 x1 _).mono ?_; rintro e' w1 ⟨rfl, rfl⟩) | (go_at_call 118; with_reducible refine (rd_w x x0 x1 _).mono ?_; rintro e' w1 ⟨rfl, rfl⟩) | (go_at_call 119; with_reducible refine (rs1_w x x0 x1 _).mono ?_; rintro e' w1 ⟨rfl, rfl⟩) | (go_at_call 84; with_reducible refine (cf_31_20 x x0 x1 _).mono ?_; rintro e' w1 ⟨rfl, rfl⟩))
    refine bodyPost_ret (v := .tuple #[Ins.v ⟨19, (fl x 4096 8) % 4, (fl x 128 32), (fl x 32768 32), 0, fl x 1048576 4096, 0, false, decide (5 ≤ fl x 4096 8)⟩ 0 0, .bool (fl x 4096 8 != 4)]) (by simp [results, Tryz.results83, go_sem, Ins.v]) rfl ⟨RdP.mk ⟨19, (fl x 4096 8) % 4, (fl x 128 32), (fl x 32768 32), 0, fl x 1048576 4096, 0, false, decide (5 ≤ fl x 4096 8)⟩ (fl x 4096 8 != 4) rfl (by have h := Hh.out; have g0 : ¬ x = 115 := (by rintro rfl; exact h (by decide)); have g1 : ¬ x = 1048691 := (by rintro rfl; exact h (by decide)); have g2 : ¬ x = 807403635 := (by rintro rfl; exact h (by decide)); have g3 : ¬ x = 270532723 := (by rintro rfl; exact h (by decide)); have g4 : ¬ x = 273678451 := (by rintro rfl; exact h (by decide)); have g5 : decide (5 ≤ fl x 4096 8) = decide (4 < fl x 4096 8) := (by simp only [decide_eq_decide]; omega); simp only [spSys, h, g0, g1, g2, g3, g4, g5, if_false]; by_cases h4 : fl x 4096 8 = 4 <;> simp [h4]), by (repeat' (first | with_reducible refine Kp.setCell ?_ ?_ _ | with_reducible refine Kp.allocs ?_ _ _ | with_reducible refine Kp.drew ?_ | with_reducible refine Kp.drewN ?_ _)); all_goals first | exact Kp.refl w | (dsimp only; omega)⟩
set_option maxHeartbeats 2000000 in
theorem sys_z (x : Int) (x0 : 0 ≤ x) (x1 : x < 4294967296) (h : fl x 4096 8 = 0) (w : World) :
    Calls Tryz.prog 83 #[.int .u32 x] w fun e w' => RdP e (spSys x) ∧ Kp w w' := by
  have brd := fl_bd x 128 32 (by omega)
  have bf3 := fl_bd x 4096 8 (by omega)
  have br1 := fl_bd x 32768 32 (by omega)
  have br2 := fl_bd x 1048576 32 (by omega)
  have bf7 := fl_bd x 33554432 128 (by omega)
  · have t0 : (fl x 4096 8 == 0) = true := by simp; omega
    have Hh := Lib.hid h
    clear h
    go_enter Tryz.func83, Tryz.ntmps83
    go_wp2_with (first | (go_at_call 117; with_reducible refine (f3_w x x0 x1 _).mono ?_; rintro e' w1 ⟨rfl, rfl⟩) | (go_at_call 132; (with_reducible refine (priv_w x x0 x1 Hh.out _).mono ?_); rintro e' w1 ⟨⟨⟨op, fn, rd, r1, r2, imm, wid, wo, us⟩, ok, rfl, hs⟩, qk⟩; have HSw1 := Lib.hid hs; clear hs; dsimp only [Ins.v]; have HKw1 := Lib.hid qk; obtain ⟨qw10, qw11, qw12, qw13, qw14, qw15, qw16, qw17, qw18, qw19, qw110⟩ := qk.c11 (b := w.heap.size) (.int .i64 0) (.int .i64 0) (.int .i64 0) (.int .i64 0) (.int .i64 0) (.int .i64 0) (.int .i64 0) (.bool false) (.bool false) (.int .i64 0) (.int .u32 0); obtain ⟨zw10, zw11, zw12, zw13, zw14, zw15, zw16, zw17, zw18, zw19, zw110⟩ := qk.z11 (b := w.heap.size); have sz := HKw1.out.size; (try simp at sz); have KW := Lib.hid (Kp.trans ((Kp.refl w).allocs _ _) HKw1.out); have ql0 : w.heap.size < w1.heap.size := (by omega); have ql1 : ¬ w.heap.size = w1.heap.size := (by omega); have ql2 : ¬ w1.heap.size = w.heap.size := (by omega); clear qk))
    refine bodyPost_ret (v := .tuple #[Ins.v ⟨op, fn, rd, r1, r2, imm, wid, wo, us⟩ 0 0, .bool (ok)]) (by simp [results, Tryz.results83, go_sem, Ins.v, *]) rfl ⟨RdP.mk ⟨op, fn, rd, r1, r2, imm, wid, wo, us⟩ (ok) rfl (by have h := Hh.out; exact HSw1.out), by (repeat' (first | with_reducible refine Kp.setCell ?_ ?_ _ | with_reducible refine Kp.allocs ?_ _ _ | with_reducible refine Kp.drew ?_ | with_reducible refine Kp.drewN ?_ _)); all_goals first | exact KW.out | (dsimp only; omega)⟩
theorem sys_w (x : Int) (x0 : 0 ≤ x) (x1 : x < 4294967296) (w : World) :
    Calls Tryz.prog 83 #[.int .u32 x] w fun e w' => RdP e (spSys x) ∧ Kp w w' := by
  by_cases h : fl x 4096 8 = 0
  · exact sys_z x x0 x1 h w
  · exact sys_n x x0 x1 h w
end Go.Proofs.YtlfeandnpflaaaaGreatDoor
