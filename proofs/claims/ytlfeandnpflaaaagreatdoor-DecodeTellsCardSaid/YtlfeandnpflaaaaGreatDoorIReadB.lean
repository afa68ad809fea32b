/-
  Contracts of base's readers: of those that part. No condition.
-/
import Derived.Test.YtlfeandnpflaaaaGreatDoorMC
namespace Go.Proofs.YtlfeandnpflaaaaGreatDoor
open Go.ChangeShapes Go.WideShapes Go.ChangeAt Go.RowKit
set_option linter.unusedVariables false
set_option linter.unusedSimpArgs false

set_option maxHeartbeats 2000000 in
theorem branch_w (x : Int) (x0 : 0 ≤ x) (x1 : x < 4294967296) (w : World) :
    Calls Tryz.prog 80 #[.int .u32 x] w fun e w' => RdP e (spBranch x) ∧ Kp w w' := by
  have brd := fl_bd x 128 32 (by omega)
  have bf3 := fl_bd x 4096 8 (by omega)
  have br1 := fl_bd x 32768 32 (by omega)
  have br2 := fl_bd x 1048576 32 (by omega)
  have bf7 := fl_bd x 33554432 128 (by omega)
  rcases (show fl x 4096 8 ≤ 1 ∨ 1 < fl x 4096 8 by omega) with h | h
  · have t0 : (decide (fl x 4096 8 ≤ 1)) = true := by simp; omega
    have Hh := Lib.hid h
    clear h
    go_enter Tryz.func80, Tryz.ntmps80
    go_wp2_with (first | (go_at_call 117; with_reducible refine (f3_w x x0 x1 _).mono ?_; rintro e' w1 ⟨rfl, rfl⟩) | (go_at_call 119; with_reducible refine (rs1_w x x0 x1 _).mono ?_; rintro e' w1 ⟨rfl, rfl⟩) | (go_at_call 127; with_reducible refine (rs2_w x x0 x1 _).mono ?_; rintro e' w1 ⟨rfl, rfl⟩) | (go_at_call 130; with_reducible refine (immB_w x x0 x1 _).mono ?_; rintro e' w1 ⟨rfl, rfl⟩))
    refine bodyPost_ret (v := .tuple #[Ins.v ⟨5, (fl x 4096 8), 0, (fl x 32768 32), (fl x 1048576 32), iB x, 0, false, false⟩ 0 0, .bool (true)]) (by simp [results, Tryz.results80, go_sem, Ins.v]) rfl ⟨RdP.mk ⟨5, (fl x 4096 8), 0, (fl x 32768 32), (fl x 1048576 32), iB x, 0, false, false⟩ (true) rfl (by have h := Hh.out; unfold spBranch; split <;> simp <;> omega), by (repeat' (first | with_reducible refine Kp.setCell ?_ ?_ _ | with_reducible refine Kp.allocs ?_ _ _ | with_reducible refine Kp.drew ?_ | with_reducible refine Kp.drewN ?_ _)); all_goals first | exact Kp.refl w | (dsimp only; omega)⟩
  · have t0 : (decide (fl x 4096 8 ≤ 1)) = false := by simp; omega
    have Hh := Lib.hid h
    clear h
    go_enter Tryz.func80, Tryz.ntmps80
    go_wp2_with (first | (go_at_call 117; with_reducible refine (f3_w x x0 x1 _).mono ?_; rintro e' w1 ⟨rfl, rfl⟩) | (go_at_call 119; with_reducible refine (rs1_w x x0 x1 _).mono ?_; rintro e' w1 ⟨rfl, rfl⟩) | (go_at_call 127; with_reducible refine (rs2_w x x0 x1 _).mono ?_; rintro e' w1 ⟨rfl, rfl⟩) | (go_at_call 130; with_reducible refine (immB_w x x0 x1 _).mono ?_; rintro e' w1 ⟨rfl, rfl⟩))
    refine bodyPost_ret (v := .tuple #[Ins.v ⟨5, (fl x 4096 8), 0, (fl x 32768 32), (fl x 1048576 32), iB x, 0, false, false⟩ 0 0, .bool (decide (4 ≤ fl x 4096 8))]) (by simp [results, Tryz.results80, go_sem, Ins.v]) rfl ⟨RdP.mk ⟨5, (fl x 4096 8), 0, (fl x 32768 32), (fl x 1048576 32), iB x, 0, false, false⟩ (decide (4 ≤ fl x 4096 8)) rfl (by have h := Hh.out; unfold spBranch; split <;> simp <;> omega), by (repeat' (first | with_reducible refine Kp.setCell ?_ ?_ _ | with_reducible refine Kp.allocs ?_ _ _ | with_reducible refine Kp.drew ?_ | with_reducible refine Kp.drewN ?_ _)); all_goals first | exact Kp.refl w | (dsimp only; omega)⟩
set_option maxHeartbeats 2000000 in
theorem fence_w (x : Int) (x0 : 0 ≤ x) (x1 : x < 4294967296) (w : World) :
    Calls Tryz.prog 73 #[.int .u32 x] w fun e w' => RdP e (spFence x) ∧ Kp w w' := by
  have brd := fl_bd x 128 32 (by omega)
  have bf3 := fl_bd x 4096 8 (by omega)
  have br1 := fl_bd x 32768 32 (by omega)
  have br2 := fl_bd x 1048576 32 (by omega)
  have bf7 := fl_bd x 33554432 128 (by omega)
  rcases (show fl x 4096 8 = 0 ∨ fl x 4096 8 = 1 ∨ (1 < fl x 4096 8) by omega) with h | h | h
  · have t0 : (fl x 4096 8 == 0) = true := by simp; omega
    have Hh := Lib.hid h
    clear h
    go_enter Tryz.func73, Tryz.ntmps73
    go_wp2_with (first | (go_at_call 117; with_reducible refine (f3_w x x0 x1 _).mono ?_; rintro e' w1 ⟨rfl, rfl⟩))
    refine bodyPost_ret (v := .tuple #[Ins.v ⟨11, 0, 0, 0, 0, 0, 0, false, false⟩ 0 0, .bool (true)]) (by simp [results, Tryz.results73, go_sem, Ins.v]) rfl ⟨RdP.mk ⟨11, 0, 0, 0, 0, 0, 0, false, false⟩ (true) rfl (by have h := Hh.out; simp [spFence, h]), by (repeat' (first | with_reducible refine Kp.setCell ?_ ?_ _ | with_reducible refine Kp.allocs ?_ _ _ | with_reducible refine Kp.drew ?_ | with_reducible refine Kp.drewN ?_ _)); all_goals first | exact Kp.refl w | (dsimp only; omega)⟩
  · have t0 : (fl x 4096 8 == 0) = false := by simp; omega
    have t1 : (fl x 4096 8 == 1) = true := by simp; omega
    have Hh := Lib.hid h
    clear h
    go_enter Tryz.func73, Tryz.ntmps73
    go_wp2_with (first | (go_at_call 117; with_reducible refine (f3_w x x0 x1 _).mono ?_; rintro e' w1 ⟨rfl, rfl⟩))
    refine bodyPost_ret (v := .tuple #[Ins.v ⟨12, 0, 0, 0, 0, 0, 0, false, false⟩ 0 0, .bool (true)]) (by simp [results, Tryz.results73, go_sem, Ins.v]) rfl ⟨RdP.mk ⟨12, 0, 0, 0, 0, 0, 0, false, false⟩ (true) rfl (by have h := Hh.out; simp [spFence, h]), by (repeat' (first | with_reducible refine Kp.setCell ?_ ?_ _ | with_reducible refine Kp.allocs ?_ _ _ | with_reducible refine Kp.drew ?_ | with_reducible refine Kp.drewN ?_ _)); all_goals first | exact Kp.refl w | (dsimp only; omega)⟩
  · have t0 : (fl x 4096 8 == 0) = false := by simp; omega
    have t1 : (fl x 4096 8 == 1) = false := by simp; omega
    have Hh := Lib.hid h
    clear h
    go_enter Tryz.func73, Tryz.ntmps73
    go_wp2_with (first | (go_at_call 117; with_reducible refine (f3_w x x0 x1 _).mono ?_; rintro e' w1 ⟨rfl, rfl⟩))
    refine bodyPost_ret (v := .tuple #[Ins.v zIns 0 0, .bool (false)]) (by simp [results, Tryz.results73, go_sem, Ins.v, zIns]) rfl ⟨RdP.mk zIns (false) rfl (by have h := Hh.out; simp [spFence, show ¬ fl x 4096 8 = 0 by omega, show ¬ fl x 4096 8 = 1 by omega]), by (repeat' (first | with_reducible refine Kp.setCell ?_ ?_ _ | with_reducible refine Kp.allocs ?_ _ _ | with_reducible refine Kp.drew ?_ | with_reducible refine Kp.drewN ?_ _)); all_goals first | exact Kp.refl w | (dsimp only; omega)⟩
set_option maxHeartbeats 2000000 in
theorem aluImm_w (x : Int) (x0 : 0 ≤ x) (x1 : x < 4294967296) (w : World) :
    Calls Tryz.prog 74 #[.int .u32 x] w fun e w' => RdP e (spImm x) ∧ Kp w w' := by
  have brd := fl_bd x 128 32 (by omega)
  have bf3 := fl_bd x 4096 8 (by omega)
  have br1 := fl_bd x 32768 32 (by omega)
  have br2 := fl_bd x 1048576 32 (by omega)
  have bf7 := fl_bd x 33554432 128 (by omega)
  have bh := fl_bd x 67108864 64 (by omega)
  have bs := fl_bd x 1048576 64 (by omega)
  have t9 : (fl x 4096 8 == 9) = false := by simp; omega
  rcases (show (¬ fl x 4096 8 = 1 ∧ ¬ fl x 4096 8 = 5) ∨ (fl x 4096 8 = 1 ∨ fl x 4096 8 = 5) ∧ fl x 67108864 64 = 0 ∨ fl x 4096 8 = 1 ∧ fl x 67108864 64 = 16 ∨ fl x 4096 8 = 5 ∧ fl x 67108864 64 = 16 ∨ (fl x 4096 8 = 1 ∨ fl x 4096 8 = 5) ∧ ¬ fl x 67108864 64 = 0 ∧ ¬ fl x 67108864 64 = 16 by omega) with h | ⟨h | h, h2⟩ | ⟨h, h2⟩ | ⟨h, h2⟩ | ⟨h | h, h2⟩
  · have t0 : (fl x 4096 8 == 1) = false := by simp; omega
    have t1 : (fl x 4096 8 == 5) = false := by simp; omega
    have Hh := Lib.hid h
    clear h
    go_enter Tryz.func74, Tryz.ntmps74
    go_wp2_with (first | (go_at_call 117; with_reducible refine (f3_w x x0 x1 _).mono ?_; rintro e' w1 ⟨rfl, rfl⟩) | (go_at_call 118; with_reducible refine (rd_w x x0 x1 _).mono ?_; rintro e' w1 ⟨rfl, rfl⟩) | (go_at_call 119; with_reducible refine (rs1_w x x0 x1 _).mono ?_; rintro e' w1 ⟨rfl, rfl⟩) | (go_at_call 120; with_reducible refine (immI_w x x0 x1 _).mono ?_; rintro e' w1 ⟨rfl, rfl⟩) | (go_at_call 121; with_reducible refine (shift_w (fl x 4096 8) false (by simp [shiftB, *]) _).mono ?_; rintro e' w1 ⟨rfl, rfl⟩) | (go_at_call 84; with_reducible refine (cf_25_20 x x0 x1 _).mono ?_; rintro e' w1 ⟨rfl, rfl⟩) | (go_at_call 84; with_reducible refine (cf_31_26 x x0 x1 _).mono ?_; rintro e' w1 ⟨rfl, rfl⟩))
    refine bodyPost_ret (v := .tuple #[Ins.v ⟨8, (fl x 4096 8), (fl x 128 32), (fl x 32768 32), 0, iI x, 0, false, false⟩ 0 0, .bool (true)]) (by simp [results, Tryz.results74, go_sem, Ins.v]) rfl ⟨RdP.mk ⟨8, (fl x 4096 8), (fl x 128 32), (fl x 32768 32), 0, iI x, 0, false, false⟩ (true) rfl (by have h := Hh.out; simp [spImm, h]), by (repeat' (first | with_reducible refine Kp.setCell ?_ ?_ _ | with_reducible refine Kp.allocs ?_ _ _ | with_reducible refine Kp.drew ?_ | with_reducible refine Kp.drewN ?_ _)); all_goals first | exact Kp.refl w | (dsimp only; omega)⟩
  · have t0 : (fl x 4096 8 == 1) = true := by simp; omega
    have t1 : (fl x 4096 8 == 5) = false := by simp; omega
    have t2 : (fl x 67108864 64 == 0) = true := by simp; omega
    have Hh := Lib.hid h
    have Hh2 := Lib.hid h2
    clear h h2
    go_enter Tryz.func74, Tryz.ntmps74
    go_wp2_with (first | (go_at_call 117; with_reducible refine (f3_w x x0 x1 _).mono ?_; rintro e' w1 ⟨rfl, rfl⟩) | (go_at_call 118; with_reducible refine (rd_w x x0 x1 _).mono ?_; rintro e' w1 ⟨rfl, rfl⟩) | (go_at_call 119; with_reducible refine (rs1_w x x0 x1 _).mono ?_; rintro e' w1 ⟨rfl, rfl⟩) | (go_at_call 120; with_reducible refine (immI_w x x0 x1 _).mono ?_; rintro e' w1 ⟨rfl, rfl⟩) | (go_at_call 121; with_reducible refine (shift_w (fl x 4096 8) true (by simp [shiftB, *]) _).mono ?_; rintro e' w1 ⟨rfl, rfl⟩) | (go_at_call 84; with_reducible refine (cf_25_20 x x0 x1 _).mono ?_; rintro e' w1 ⟨rfl, rfl⟩) | (go_at_call 84; with_reducible refine (cf_31_26 x x0 x1 _).mono ?_; rintro e' w1 ⟨rfl, rfl⟩))
    refine bodyPost_ret (v := .tuple #[Ins.v ⟨8, (fl x 4096 8), (fl x 128 32), (fl x 32768 32), 0, fl x 1048576 64, 0, false, false⟩ 0 0, .bool (true)]) (by simp [results, Tryz.results74, go_sem, Ins.v]) rfl ⟨RdP.mk ⟨8, (fl x 4096 8), (fl x 128 32), (fl x 32768 32), 0, fl x 1048576 64, 0, false, false⟩ (true) rfl (by have h := Hh.out; have h2 := Hh2.out; simp [spImm, h, h2]), by (repeat' (first | with_reducible refine Kp.setCell ?_ ?_ _ | with_reducible refine Kp.allocs ?_ _ _ | with_reducible refine Kp.drew ?_ | with_reducible refine Kp.drewN ?_ _)); all_goals first | exact Kp.refl w | (dsimp only; omega)⟩
  · have t0 : (fl x 4096 8 == 1) = false := by simp; omega
    have t1 : (fl x 4096 8 == 5) = true := by simp; omega
    have t2 : (fl x 67108864 64 == 0) = true := by simp; omega
    have Hh := Lib.hid h
    have Hh2 := Lib.hid h2
    clear h h2
    go_enter Tryz.func74, Tryz.ntmps74
    go_wp2_with (first | (go_at_call 117; with_reducible refine (f3_w x x0 x1 _).mono ?_; rintro e' w1 ⟨rfl, rfl⟩) | (go_at_call 118; with_reducible refine (rd_w x x0 x1 _).mono ?_; rintro e' w1 ⟨rfl, rfl⟩) | (go_at_call 119; with_reducible refine (rs1_w x x0 x1 _).mono ?_; rintro e' w1 ⟨rfl, rfl⟩) | (go_at_call 120; with_reducible refine (immI_w x x0 x1 _).mono ?_; rintro e' w1 ⟨rfl, rfl⟩) | (go_at_call 121; with_reducible refine (shift_w (fl x 4096 8) true (by simp [shiftB, *]) _).mono ?_; rintro e' w1 ⟨rfl, rfl⟩) | (go_at_call 84; with_reducible refine (cf_25_20 x x0 x1 _).mono ?_; rintro e' w1 ⟨rfl, rfl⟩) | (go_at_call 84; with_reducible refine (cf_31_26 x x0 x1 _).mono ?_; rintro e' w1 ⟨rfl, rfl⟩))
    refine bodyPost_ret (v := .tuple #[Ins.v ⟨8, (fl x 4096 8), (fl x 128 32), (fl x 32768 32), 0, fl x 1048576 64, 0, false, false⟩ 0 0, .bool (true)]) (by simp [results, Tryz.results74, go_sem, Ins.v]) rfl ⟨RdP.mk ⟨8, (fl x 4096 8), (fl x 128 32), (fl x 32768 32), 0, fl x 1048576 64, 0, false, false⟩ (true) rfl (by have h := Hh.out; have h2 := Hh2.out; simp [spImm, h, h2]), by (repeat' (first | with_reducible refine Kp.setCell ?_ ?_ _ | with_reducible refine Kp.allocs ?_ _ _ | with_reducible refine Kp.drew ?_ | with_reducible refine Kp.drewN ?_ _)); all_goals first | exact Kp.refl w | (dsimp only; omega)⟩
  · have t0 : (fl x 4096 8 == 1) = true := by simp; omega
    have t1 : (fl x 4096 8 == 5) = false := by simp; omega
    have t2 : (fl x 4096 8 == 0) = false := by simp; omega
    have t3 : (fl x 67108864 64 == 0) = false := by simp; omega
    have t4 : (fl x 67108864 64 == 16) = true := by simp; omega
    have Hh := Lib.hid h
    have Hh2 := Lib.hid h2
    clear h h2
    go_enter Tryz.func74, Tryz.ntmps74
    go_wp2_with (first | (go_at_call 117; with_reducible refine (f3_w x x0 x1 _).mono ?_; rintro e' w1 ⟨rfl, rfl⟩) | (go_at_call 118; with_reducible refine (rd_w x x0 x1 _).mono ?_; rintro e' w1 ⟨rfl, rfl⟩) | (go_at_call 119; with_reducible refine (rs1_w x x0 x1 _).mono ?_; rintro e' w1 ⟨rfl, rfl⟩) | (go_at_call 120; with_reducible refine (immI_w x x0 x1 _).mono ?_; rintro e' w1 ⟨rfl, rfl⟩) | (go_at_call 121; with_reducible refine (shift_w (fl x 4096 8) true (by simp [shiftB, *]) _).mono ?_; rintro e' w1 ⟨rfl, rfl⟩) | (go_at_call 84; with_reducible refine (cf_25_20 x x0 x1 _).mono ?_; rintro e' w1 ⟨rfl, rfl⟩) | (go_at_call 84; with_reducible refine (cf_31_26 x x0 x1 _).mono ?_; rintro e' w1 ⟨rfl, rfl⟩) | (go_at_call 122; (with_reducible refine (turned_n 8 (fl x 4096 8) (fl x 128 32) (fl x 32768 32) 0 (fl x 1048576 64) 0 false false (by assumption) (by assumption) _).mono ?_); rintro e' w1 ⟨rfl, qk⟩; have HKw1 := Lib.hid qk; obtain ⟨qw10, qw11, qw12, qw13, qw14, qw15, qw16, qw17, qw18, qw19, qw110⟩ := qk.c11 (b := w.heap.size) (.int .i64 0) (.int .i64 0) (.int .i64 0) (.int .i64 0) (.int .i64 0) (.int .i64 0) (.int .i64 0) (.bool false) (.bool false) (.int .i64 0) (.int .u32 0); obtain ⟨zw10, zw11, zw12, zw13, zw14, zw15, zw16, zw17, zw18, zw19, zw110⟩ := qk.z11 (b := w.heap.size); have sz := qk.size; (try simp at sz); have KW := Lib.hid (Kp.trans (((Kp.refl w).allocs _ _).allocs _ _) qk); have ql0 : w.heap.size < w1.heap.size := (by omega); have ql1 : ¬ w.heap.size = w1.heap.size := (by omega); have ql2 : ¬ w1.heap.size = w.heap.size := (by omega); clear qk))
    refine bodyPost_ret (v := .tuple #[Ins.v zIns 0 0, .bool (false)]) (by simp [results, Tryz.results74, go_sem, Ins.v, zIns, *]) rfl ⟨RdP.mk zIns (false) rfl (by have h := Hh.out; have h2 := Hh2.out; simp [spImm, h, h2]), by (repeat' (first | with_reducible refine Kp.setCell ?_ ?_ _ | with_reducible refine Kp.allocs ?_ _ _ | with_reducible refine Kp.drew ?_ | with_reducible refine Kp.drewN ?_ _)); all_goals first | exact KW.out | (dsimp only; omega)⟩
  · have t0 : (fl x 4096 8 == 1) = false := by simp; omega
    have t1 : (fl x 4096 8 == 5) = true := by simp; omega
    have t2 : (fl x 4096 8 == 0) = false := by simp; omega
    have t3 : (fl x 67108864 64 == 0) = false := by simp; omega
    have t4 : (fl x 67108864 64 == 16) = true := by simp; omega
    have Hh := Lib.hid h
    have Hh2 := Lib.hid h2
    clear h h2
    go_enter Tryz.func74, Tryz.ntmps74
    go_wp2_with (first | (go_at_call 117; with_reducible refine (f3_w x x0 x1 _).mono ?_; rintro e' w1 ⟨rfl, rfl⟩) | (go_at_call 118; with_reducible refine (rd_w x x0 x1 _).mono ?_; rintro e' w1 ⟨rfl, rfl⟩) | (go_at_call 119; with_reducible refine (rs1_w x x0 x1 _).mono ?_; rintro e' w1 ⟨rfl, rfl⟩) | (go_at_call 120; with_reducible refine (immI_w x x0 x1 _).mono ?_; rintro e' w1 ⟨rfl, rfl⟩) | (go_at_call 121; with_reducible refine (shift_w (fl x 4096 8) true (by simp [shiftB, *]) _).mono ?_; rintro e' w1 ⟨rfl, rfl⟩) | (go_at_call 84; with_reducible refine (cf_25_20 x x0 x1 _).mono ?_; rintro e' w1 ⟨rfl, rfl⟩) | (go_at_call 84; with_reducible refine (cf_31_26 x x0 x1 _).mono ?_; rintro e' w1 ⟨rfl, rfl⟩) | (go_at_call 122; (with_reducible refine (turned_5 8 (fl x 4096 8) (fl x 128 32) (fl x 32768 32) 0 (fl x 1048576 64) 0 false false (by assumption) (by assumption) _).mono ?_); rintro e' w1 ⟨rfl, qk⟩; have HKw1 := Lib.hid qk; obtain ⟨qw10, qw11, qw12, qw13, qw14, qw15, qw16, qw17, qw18, qw19, qw110⟩ := qk.c11 (b := w.heap.size) (.int .i64 0) (.int .i64 0) (.int .i64 0) (.int .i64 0) (.int .i64 0) (.int .i64 0) (.int .i64 0) (.bool false) (.bool false) (.int .i64 0) (.int .u32 0); obtain ⟨zw10, zw11, zw12, zw13, zw14, zw15, zw16, zw17, zw18, zw19, zw110⟩ := qk.z11 (b := w.heap.size); have sz := qk.size; (try simp at sz); have KW := Lib.hid (Kp.trans (((Kp.refl w).allocs _ _).allocs _ _) qk); have ql0 : w.heap.size < w1.heap.size := (by omega); have ql1 : ¬ w.heap.size = w1.heap.size := (by omega); have ql2 : ¬ w1.heap.size = w.heap.size := (by omega); clear qk))
    refine bodyPost_ret (v := .tuple #[Ins.v ⟨8, 9, (fl x 128 32), (fl x 32768 32), 0, fl x 1048576 64, 0, false, false⟩ 0 0, .bool (true)]) (by simp [results, Tryz.results74, go_sem, Ins.v, *]) rfl ⟨RdP.mk ⟨8, 9, (fl x 128 32), (fl x 32768 32), 0, fl x 1048576 64, 0, false, false⟩ (true) rfl (by have h := Hh.out; have h2 := Hh2.out; simp [spImm, h, h2]), by (repeat' (first | with_reducible refine Kp.setCell ?_ ?_ _ | with_reducible refine Kp.allocs ?_ _ _ | with_reducible refine Kp.drew ?_ | with_reducible refine Kp.drewN ?_ _)); all_goals first | exact KW.out | (dsimp only; omega)⟩
  · have t0 : (fl x 4096 8 == 1) = true := by simp; omega
    have t1 : (fl x 4096 8 == 5) = false := by simp; omega
    have t2 : (fl x 67108864 64 == 0) = false := by simp; omega
    have t3 : (fl x 67108864 64 == 16) = false := by simp; omega
    have Hh := Lib.hid h
    have Hh2 := Lib.hid h2
    clear h h2
    go_enter Tryz.func74, Tryz.ntmps74
    go_wp2_with (first | (go_at_call 117; with_reducible refine (f3_w x x0 x1 _).mono ?_; rintro e' w1 ⟨rfl, rfl⟩) | (go_at_call 118; with_reducible refine (rd_w x x0 x1 _).mono ?_; rintro e' w1 ⟨rfl, rfl⟩) | (go_at_call 119; with_reducible refine (rs1_w x x0 x1 _).mono ?_; rintro e' w1 ⟨rfl, rfl⟩) | (go_at_call 120; with_reducible refine (immI_w x x0 x1 _).mono ?_; rintro e' w1 ⟨rfl, rfl⟩) | (go_at_call 121; with_reducible refine (shift_w (fl x 4096 8) true (by simp [shiftB, *]) _).mono ?_; rintro e' w1 ⟨rfl, rfl⟩) | (go_at_call 84; with_reducible refine (cf_25_20 x x0 x1 _).mono ?_; rintro e' w1 ⟨rfl, rfl⟩) | (go_at_call 84; with_reducible refine (cf_31_26 x x0 x1 _).mono ?_; rintro e' w1 ⟨rfl, rfl⟩))
    refine bodyPost_ret (v := .tuple #[Ins.v zIns 0 0, .bool (false)]) (by simp [results, Tryz.results74, go_sem, Ins.v, zIns]) rfl ⟨RdP.mk zIns (false) rfl (by have h := Hh.out; have h2 := Hh2.out; simp [spImm, h, h2]), by (repeat' (first | with_reducible refine Kp.setCell ?_ ?_ _ | with_reducible refine Kp.allocs ?_ _ _ | with_reducible refine Kp.drew ?_ | with_reducible refine Kp.drewN ?_ _)); all_goals first | exact Kp.refl w | (dsimp only; omega)⟩
  · have t0 : (fl x 4096 8 == 1) = false := by simp; omega
    have t1 : (fl x 4096 8 == 5) = true := by simp; omega
    have t2 : (fl x 67108864 64 == 0) = false := by simp; omega
    have t3 : (fl x 67108864 64 == 16) = false := by simp; omega
    have Hh := Lib.hid h
    have Hh2 := Lib.hid h2
    clear h h2
    go_enter Tryz.func74, Tryz.ntmps74
    go_wp2_with (first | (go_at_call 117; with_reducible refine (f3_w x x0 x1 _).mono ?_; rintro e' w1 ⟨rfl, rfl⟩) | (go_at_call 118; with_reducible refine (rd_w x x0 x1 _).mono ?_; rintro e' w1 ⟨rfl, rfl⟩) | (go_at_call 119; with_reducible refine (rs1_w x x0 x1 _).mono ?_; rintro e' w1 ⟨rfl, rfl⟩) | (go_at_call 120; with_reducible refine (immI_w x x0 x1 _).mono ?_; rintro e' w1 ⟨rfl, rfl⟩) | (go_at_call 121; with_reducible refine (shift_w (fl x 4096 8) true (by simp [shiftB, *]) _).mono ?_; rintro e' w1 ⟨rfl, rfl⟩) | (go_at_call 84; with_reducible refine (cf_25_20 x x0 x1 _).mono ?_; rintro e' w1 ⟨rfl, rfl⟩) | (go_at_call 84; with_reducible refine (cf_31_26 x x0 x1 _).mono ?_; rintro e' w1 ⟨rfl, rfl⟩))
    refine bodyPost_ret (v := .tuple #[Ins.v zIns 0 0, .bool (false)]) (by simp [results, Tryz.results74, go_sem, Ins.v, zIns]) rfl ⟨RdP.mk zIns (false) rfl (by have h := Hh.out; have h2 := Hh2.out; simp [spImm, h, h2]), by (repeat' (first | with_reducible refine Kp.setCell ?_ ?_ _ | with_reducible refine Kp.allocs ?_ _ _ | with_reducible refine Kp.drew ?_ | with_reducible refine Kp.drewN ?_ _)); all_goals first | exact Kp.refl w | (dsimp only; omega)⟩
set_option maxHeartbeats 2000000 in
theorem alu_w (x : Int) (x0 : 0 ≤ x) (x1 : x < 4294967296) (w : World) :
    Calls Tryz.prog 79 #[.int .u32 x] w fun e w' => RdP e (spAlu x) ∧ Kp w w' := by
  have brd := fl_bd x 128 32 (by omega)
  have bf3 := fl_bd x 4096 8 (by omega)
  have br1 := fl_bd x 32768 32 (by omega)
  have br2 := fl_bd x 1048576 32 (by omega)
  have bf7 := fl_bd x 33554432 128 (by omega)
  rcases (show fl x 33554432 128 = 0 ∨ fl x 33554432 128 = 1 ∨ fl x 33554432 128 = 32 ∧ fl x 4096 8 = 0 ∨ fl x 33554432 128 = 32 ∧ fl x 4096 8 = 5 ∨ fl x 33554432 128 = 32 ∧ ¬ fl x 4096 8 = 0 ∧ ¬ fl x 4096 8 = 5 ∨ (¬ fl x 33554432 128 = 0 ∧ ¬ fl x 33554432 128 = 1 ∧ ¬ fl x 33554432 128 = 32) by omega) with h | h | ⟨h, h2⟩ | ⟨h, h2⟩ | ⟨h, h2⟩ | h
  · have t0 : (fl x 33554432 128 == 0) = true := by simp; omega
    have Hh := Lib.hid h
    clear h
    go_enter Tryz.func79, Tryz.ntmps79
    go_wp2_with (first | (go_at_call 117; with_reducible refine (f3_w x x0 x1 _).mono ?_; rintro e' w1 ⟨rfl, rfl⟩) | (go_at_call 118; with_reducible refine (rd_w x x0 x1 _).mono ?_; rintro e' w1 ⟨rfl, rfl⟩) | (go_at_call 119; with_reducible refine (rs1_w x x0 x1 _).mono ?_; rintro e' w1 ⟨rfl, rfl⟩) | (go_at_call 127; with_reducible refine (rs2_w x x0 x1 _).mono ?_; rintro e' w1 ⟨rfl, rfl⟩) | (go_at_call 129; with_reducible refine (f7_w x x0 x1 _).mono ?_; rintro e' w1 ⟨rfl, rfl⟩))
    refine bodyPost_ret (v := .tuple #[Ins.v ⟨9, (fl x 4096 8), (fl x 128 32), (fl x 32768 32), (fl x 1048576 32), 0, 0, false, false⟩ 0 0, .bool (true)]) (by simp [results, Tryz.results79, go_sem, Ins.v]) rfl ⟨RdP.mk ⟨9, (fl x 4096 8), (fl x 128 32), (fl x 32768 32), (fl x 1048576 32), 0, 0, false, false⟩ (true) rfl (by have h := Hh.out; simp [spAlu, h]), by (repeat' (first | with_reducible refine Kp.setCell ?_ ?_ _ | with_reducible refine Kp.allocs ?_ _ _ | with_reducible refine Kp.drew ?_ | with_reducible refine Kp.drewN ?_ _)); all_goals first | exact Kp.refl w | (dsimp only; omega)⟩
  · have t0 : (fl x 33554432 128 == 0) = false := by simp; omega
    have t1 : (fl x 33554432 128 == 1) = true := by simp; omega
    have Hh := Lib.hid h
    clear h
    go_enter Tryz.func79, Tryz.ntmps79
    go_wp2_with (first | (go_at_call 117; with_reducible refine (f3_w x x0 x1 _).mono ?_; rintro e' w1 ⟨rfl, rfl⟩) | (go_at_call 118; with_reducible refine (rd_w x x0 x1 _).mono ?_; rintro e' w1 ⟨rfl, rfl⟩) | (go_at_call 119; with_reducible refine (rs1_w x x0 x1 _).mono ?_; rintro e' w1 ⟨rfl, rfl⟩) | (go_at_call 127; with_reducible refine (rs2_w x x0 x1 _).mono ?_; rintro e' w1 ⟨rfl, rfl⟩) | (go_at_call 129; with_reducible refine (f7_w x x0 x1 _).mono ?_; rintro e' w1 ⟨rfl, rfl⟩))
    refine bodyPost_ret (v := .tuple #[Ins.v ⟨10, (fl x 4096 8), (fl x 128 32), (fl x 32768 32), (fl x 1048576 32), 0, 0, false, false⟩ 0 0, .bool (true)]) (by simp [results, Tryz.results79, go_sem, Ins.v]) rfl ⟨RdP.mk ⟨10, (fl x 4096 8), (fl x 128 32), (fl x 32768 32), (fl x 1048576 32), 0, 0, false, false⟩ (true) rfl (by have h := Hh.out; simp [spAlu, h]), by (repeat' (first | with_reducible refine Kp.setCell ?_ ?_ _ | with_reducible refine Kp.allocs ?_ _ _ | with_reducible refine Kp.drew ?_ | with_reducible refine Kp.drewN ?_ _)); all_goals first | exact Kp.refl w | (dsimp only; omega)⟩
  · have t0 : (fl x 33554432 128 == 0) = false := by simp; omega
    have t1 : (fl x 33554432 128 == 1) = false := by simp; omega
    have t2 : (fl x 33554432 128 == 32) = true := by simp; omega
    have t3 : (fl x 4096 8 == 0) = true := by simp; omega
    have Hh := Lib.hid h
    have Hh2 := Lib.hid h2
    clear h h2
    go_enter Tryz.func79, Tryz.ntmps79
    go_wp2_with (first | (go_at_call 117; with_reducible refine (f3_w x x0 x1 _).mono ?_; rintro e' w1 ⟨rfl, rfl⟩) | (go_at_call 118; with_reducible refine (rd_w x x0 x1 _).mono ?_; rintro e' w1 ⟨rfl, rfl⟩) | (go_at_call 119; with_reducible refine (rs1_w x x0 x1 _).mono ?_; rintro e' w1 ⟨rfl, rfl⟩) | (go_at_call 127; with_reducible refine (rs2_w x x0 x1 _).mono ?_; rintro e' w1 ⟨rfl, rfl⟩) | (go_at_call 129; with_reducible refine (f7_w x x0 x1 _).mono ?_; rintro e' w1 ⟨rfl, rfl⟩) | (go_at_call 122; (with_reducible refine (turned_0 9 (fl x 4096 8) (fl x 128 32) (fl x 32768 32) (fl x 1048576 32) 0 0 false false (by assumption) _).mono ?_); rintro e' w1 ⟨rfl, qk⟩; have HKw1 := Lib.hid qk; obtain ⟨qw10, qw11, qw12, qw13, qw14, qw15, qw16, qw17, qw18, qw19, qw110⟩ := qk.c11 (b := w.heap.size) (.int .i64 0) (.int .i64 0) (.int .i64 0) (.int .i64 0) (.int .i64 0) (.int .i64 0) (.int .i64 0) (.bool false) (.bool false) (.int .i64 0) (.int .u32 0); obtain ⟨zw10, zw11, zw12, zw13, zw14, zw15, zw16, zw17, zw18, zw19, zw110⟩ := qk.z11 (b := w.heap.size); have sz := qk.size; (try simp at sz); have KW := Lib.hid (Kp.trans (((Kp.refl w).allocs _ _).allocs _ _) qk); have ql0 : w.heap.size < w1.heap.size := (by omega); have ql1 : ¬ w.heap.size = w1.heap.size := (by omega); have ql2 : ¬ w1.heap.size = w.heap.size := (by omega); clear qk))
    refine bodyPost_ret (v := .tuple #[Ins.v ⟨9, 8, (fl x 128 32), (fl x 32768 32), (fl x 1048576 32), 0, 0, false, false⟩ 0 0, .bool (true)]) (by simp [results, Tryz.results79, go_sem, Ins.v, *]) rfl ⟨RdP.mk ⟨9, 8, (fl x 128 32), (fl x 32768 32), (fl x 1048576 32), 0, 0, false, false⟩ (true) rfl (by have h := Hh.out; have h2 := Hh2.out; simp [spAlu, h, h2]), by (repeat' (first | with_reducible refine Kp.setCell ?_ ?_ _ | with_reducible refine Kp.allocs ?_ _ _ | with_reducible refine Kp.drew ?_ | with_reducible refine Kp.drewN ?_ _)); all_goals first | exact KW.out | (dsimp only; omega)⟩
  · have t0 : (fl x 33554432 128 == 0) = false := by simp; omega
    have t1 : (fl x 33554432 128 == 1) = false := by simp; omega
    have t2 : (fl x 33554432 128 == 32) = true := by simp; omega
    have t3 : (fl x 4096 8 == 0) = false := by simp; omega
    have t4 : (fl x 4096 8 == 5) = true := by simp; omega
    have Hh := Lib.hid h
    have Hh2 := Lib.hid h2
    clear h h2
    go_enter Tryz.func79, Tryz.ntmps79
    go_wp2_with (first | (go_at_call 117; with_reducible refine (f3_w x x0 x1 _).mono ?_; rintro e' w1 ⟨rfl, rfl⟩) | (go_at_call 118; with_reducible refine (rd_w x x0 x1 _).mono ?_; rintro e' w1 ⟨rfl, rfl⟩) | (go_at_call 119; with_reducible refine (rs1_w x x0 x1 _).mono ?_; rintro e' w1 ⟨rfl, rfl⟩) | (go_at_call 127; with_reducible refine (rs2_w x x0 x1 _).mono ?_; rintro e' w1 ⟨rfl, rfl⟩) | (go_at_call 129; with_reducible refine (f7_w x x0 x1 _).mono ?_; rintro e' w1 ⟨rfl, rfl⟩) | (go_at_call 122; (with_reducible refine (turned_5 9 (fl x 4096 8) (fl x 128 32) (fl x 32768 32) (fl x 1048576 32) 0 0 false false (by assumption) (by assumption) _).mono ?_); rintro e' w1 ⟨rfl, qk⟩; have HKw1 := Lib.hid qk; obtain ⟨qw10, qw11, qw12, qw13, qw14, qw15, qw16, qw17, qw18, qw19, qw110⟩ := qk.c11 (b := w.heap.size) (.int .i64 0) (.int .i64 0) (.int .i64 0) (.int .i64 0) (.int .i64 0) (.int .i64 0) (.int .i64 0) (.bool false) (.bool false) (.int .i64 0) (.int .u32 0); obtain ⟨zw10, zw11, zw12, zw13, zw14, zw15, zw16, zw17, zw18, zw19, zw110⟩ := qk.z11 (b := w.heap.size); have sz := qk.size; (try simp at sz); have KW := Lib.hid (Kp.trans (((Kp.refl w).allocs _ _).allocs _ _) qk); have ql0 : w.heap.size < w1.heap.size := (by omega); have ql1 : ¬ w.heap.size = w1.heap.size := (by omega); have ql2 : ¬ w1.heap.size = w.heap.size := (by omega); clear qk))
    refine bodyPost_ret (v := .tuple #[Ins.v ⟨9, 9, (fl x 128 32), (fl x 32768 32), (fl x 1048576 32), 0, 0, false, false⟩ 0 0, .bool (true)]) (by simp [results, Tryz.results79, go_sem, Ins.v, *]) rfl ⟨RdP.mk ⟨9, 9, (fl x 128 32), (fl x 32768 32), (fl x 1048576 32), 0, 0, false, false⟩ (true) rfl (by have h := Hh.out; have h2 := Hh2.out; simp [spAlu, h, h2]), by (repeat' (first | with_reducible refine Kp.setCell ?_ ?_ _ | with_reducible refine Kp.allocs ?_ _ _ | with_reducible refine Kp.drew ?_ | with_reducible refine Kp.drewN ?_ _)); all_goals first | exact KW.out | (dsimp only; omega)⟩
  · have t0 : (fl x 33554432 128 == 0) = false := by simp; omega
    have t1 : (fl x 33554432 128 == 1) = false := by simp; omega
    have t2 : (fl x 33554432 128 == 32) = true := by simp; omega
    have t3 : (fl x 4096 8 == 0) = false := by simp; omega
    have t4 : (fl x 4096 8 == 5) = false := by simp; omega
    have Hh := Lib.hid h
    have Hh2 := Lib.hid h2
    clear h h2
    go_enter Tryz.func79, Tryz.ntmps79
    go_wp2_with (first | (go_at_call 117; with_reducible refine (f3_w x x0 x1 _).mono ?_; rintro e' w1 ⟨rfl, rfl⟩) | (go_at_call 118; with_reducible refine (rd_w x x0 x1 _).mono ?_; rintro e' w1 ⟨rfl, rfl⟩) | (go_at_call 119; with_reducible refine (rs1_w x x0 x1 _).mono ?_; rintro e' w1 ⟨rfl, rfl⟩) | (go_at_call 127; with_reducible refine (rs2_w x x0 x1 _).mono ?_; rintro e' w1 ⟨rfl, rfl⟩) | (go_at_call 129; with_reducible refine (f7_w x x0 x1 _).mono ?_; rintro e' w1 ⟨rfl, rfl⟩) | (go_at_call 122; (with_reducible refine (turned_n 9 (fl x 4096 8) (fl x 128 32) (fl x 32768 32) (fl x 1048576 32) 0 0 false false (by assumption) (by assumption) _).mono ?_); rintro e' w1 ⟨rfl, qk⟩; have HKw1 := Lib.hid qk; obtain ⟨qw10, qw11, qw12, qw13, qw14, qw15, qw16, qw17, qw18, qw19, qw110⟩ := qk.c11 (b := w.heap.size) (.int .i64 0) (.int .i64 0) (.int .i64 0) (.int .i64 0) (.int .i64 0) (.int .i64 0) (.int .i64 0) (.bool false) (.bool false) (.int .i64 0) (.int .u32 0); obtain ⟨zw10, zw11, zw12, zw13, zw14, zw15, zw16, zw17, zw18, zw19, zw110⟩ := qk.z11 (b := w.heap.size); have sz := qk.size; (try simp at sz); have KW := Lib.hid (Kp.trans (((Kp.refl w).allocs _ _).allocs _ _) qk); have ql0 : w.heap.size < w1.heap.size := (by omega); have ql1 : ¬ w.heap.size = w1.heap.size := (by omega); have ql2 : ¬ w1.heap.size = w.heap.size := (by omega); clear qk))
    refine bodyPost_ret (v := .tuple #[Ins.v zIns 0 0, .bool (false)]) (by simp [results, Tryz.results79, go_sem, Ins.v, zIns, *]) rfl ⟨RdP.mk zIns (false) rfl (by have h := Hh.out; have h2 := Hh2.out; simp [spAlu, h, h2]), by (repeat' (first | with_reducible refine Kp.setCell ?_ ?_ _ | with_reducible refine Kp.allocs ?_ _ _ | with_reducible refine Kp.drew ?_ | with_reducible refine Kp.drewN ?_ _)); all_goals first | exact KW.out | (dsimp only; omega)⟩
  · have t0 : (fl x 33554432 128 == 0) = false := by simp; omega
    have t1 : (fl x 33554432 128 == 1) = false := by simp; omega
    have t2 : (fl x 33554432 128 == 32) = false := by simp; omega
    have Hh := Lib.hid h
    clear h
    go_enter Tryz.func79, Tryz.ntmps79
    go_wp2_with (first | (go_at_call 117; with_reducible refine (f3_w x x0 x1 _).mono ?_; rintro e' w1 ⟨rfl, rfl⟩) | (go_at_call 118; with_reducible refine (rd_w x x0 x1 _).mono ?_; rintro e' w1 ⟨rfl, rfl⟩) | (go_at_call 119; with_reducible refine (rs1_w x x0 x1 _).mono ?_; rintro e' w1 ⟨rfl, rfl⟩) | (go_at_call 127; with_reducible refine (rs2_w x x0 x1 _).mono ?_; rintro e' w1 ⟨rfl, rfl⟩) | (go_at_call 129; with_reducible refine (f7_w x x0 x1 _).mono ?_; rintro e' w1 ⟨rfl, rfl⟩))
    refine bodyPost_ret (v := .tuple #[Ins.v zIns 0 0, .bool (false)]) (by simp [results, Tryz.results79, go_sem, Ins.v, zIns]) rfl ⟨RdP.mk zIns (false) rfl (by have h := Hh.out; simp [spAlu, h]), by (repeat' (first | with_reducible refine Kp.setCell ?_ ?_ _ | with_reducible refine Kp.allocs ?_ _ _ | with_reducible refine Kp.drew ?_ | with_reducible refine Kp.drewN ?_ _)); all_goals first | exact Kp.refl w | (dsimp only; omega)⟩
end Go.Proofs.YtlfeandnpflaaaaGreatDoor
