/-
  Contracts of base's readers: what there is of 32 bits; the closures that upper and narrow make. No condition.
-/
import Derived.Test.YtlfeandnpflaaaaGreatDoorMC
namespace Go.Proofs.YtlfeandnpflaaaaGreatDoor
open Go.ChangeShapes Go.WideShapes Go.ChangeAt Go.RowKit
set_option linter.unusedVariables false
set_option linter.unusedSimpArgs false

set_option maxRecDepth 4000 in
set_option maxHeartbeats 4000000 in
theorem isNarrow_w (op fn rd r1 r2 imm wid : Int) (wo us v : Bool) (hv : narB ⟨op, fn, rd, r1, r2, imm, wid, wo, us⟩ = v) (w : World) :
    Calls Tryz.prog 126 #[.agg #[.int .i64 op, .int .i64 fn, .int .i64 rd, .int .i64 r1, .int .i64 r2, .int .i64 imm, .int .i64 wid, .bool wo, .bool us, .int .i64 0, .int .u32 0]] w fun e w' => e = .returned (.bool v) ∧ Kp w w' := by
  obtain ⟨s, hs⟩ : ∃ s, shiftB fn = s := ⟨_, rfl⟩
  cases s
  all_goals
    rcases (show op = 10 ∨ op = 8 ∨ (¬ op = 10 ∧ ¬ op = 8) by omega) with h | h | h
  all_goals
    rcases (show fn = 0 ∨ fn = 8 ∨ (¬ fn = 0 ∧ ¬ fn = 8) by omega) with g | g | g
  · have t0 : (op == 10) = true := by simp; omega
    have t1 : (fn == 0) = true := by simp; omega
    have Hh := Lib.hid h
    have Hg := Lib.hid g
    have Hv := Lib.hid hv
    clear h g hv
    go_enter Tryz.func126, Tryz.ntmps126
    go_wp2_with (first | (go_at_call 121; with_reducible refine (shift_w fn false (by assumption) _).mono ?_; rintro e' w1 ⟨rfl, rfl⟩))
    refine bodyPost_ret (v := .bool (true)) (by simp [results, Tryz.results126, go_sem]) rfl ⟨ret_bool (by rw [← Hv.out]; have h := Hh.out; have g := Hg.out; (try rw [g] at hs); simp [narB, h, g, hs]), by (repeat' (first | with_reducible refine Kp.setCell ?_ ?_ _ | with_reducible refine Kp.allocs ?_ _ _ | with_reducible refine Kp.drew ?_ | with_reducible refine Kp.drewN ?_ _)); all_goals first | exact Kp.refl w | (dsimp only; omega)⟩
  · have t0 : (op == 10) = true := by simp; omega
    have t1 : (fn == 0) = false := by simp; omega
    have Hh := Lib.hid h
    have Hg := Lib.hid g
    have Hv := Lib.hid hv
    clear h g hv
    go_enter Tryz.func126, Tryz.ntmps126
    go_wp2_with (first | (go_at_call 121; with_reducible refine (shift_w fn false (by assumption) _).mono ?_; rintro e' w1 ⟨rfl, rfl⟩))
    refine bodyPost_ret (v := .bool (decide (4 ≤ fn))) (by simp [results, Tryz.results126, go_sem]) rfl ⟨ret_bool (by rw [← Hv.out]; have h := Hh.out; have g := Hg.out; (try rw [g] at hs); simp [narB, h, g, hs]), by (repeat' (first | with_reducible refine Kp.setCell ?_ ?_ _ | with_reducible refine Kp.allocs ?_ _ _ | with_reducible refine Kp.drew ?_ | with_reducible refine Kp.drewN ?_ _)); all_goals first | exact Kp.refl w | (dsimp only; omega)⟩
  · have t0 : (op == 10) = true := by simp; omega
    have t1 : (fn == 0) = false := by simp; omega
    have Hh := Lib.hid h
    have Hg := Lib.hid g
    have Hv := Lib.hid hv
    clear h g hv
    go_enter Tryz.func126, Tryz.ntmps126
    go_wp2_with (first | (go_at_call 121; with_reducible refine (shift_w fn false (by assumption) _).mono ?_; rintro e' w1 ⟨rfl, rfl⟩))
    refine bodyPost_ret (v := .bool (decide (4 ≤ fn))) (by simp [results, Tryz.results126, go_sem]) rfl ⟨ret_bool (by rw [← Hv.out]; have h := Hh.out; have g := Hg.out; (try rw [g] at hs); simp [narB, h, g, hs]), by (repeat' (first | with_reducible refine Kp.setCell ?_ ?_ _ | with_reducible refine Kp.allocs ?_ _ _ | with_reducible refine Kp.drew ?_ | with_reducible refine Kp.drewN ?_ _)); all_goals first | exact Kp.refl w | (dsimp only; omega)⟩
  · have t0 : (op == 10) = false := by simp; omega
    have t1 : (op == 8) = true := by simp; omega
    have t2 : (fn == 0) = true := by simp; omega
    have Hh := Lib.hid h
    have Hg := Lib.hid g
    have Hv := Lib.hid hv
    clear h g hv
    go_enter Tryz.func126, Tryz.ntmps126
    go_wp2_with (first | (go_at_call 121; with_reducible refine (shift_w fn false (by assumption) _).mono ?_; rintro e' w1 ⟨rfl, rfl⟩))
    refine bodyPost_ret (v := .bool (true)) (by simp [results, Tryz.results126, go_sem]) rfl ⟨ret_bool (by rw [← Hv.out]; have h := Hh.out; have g := Hg.out; (try rw [g] at hs); simp [narB, h, g, hs]), by (repeat' (first | with_reducible refine Kp.setCell ?_ ?_ _ | with_reducible refine Kp.allocs ?_ _ _ | with_reducible refine Kp.drew ?_ | with_reducible refine Kp.drewN ?_ _)); all_goals first | exact Kp.refl w | (dsimp only; omega)⟩
  · have t0 : (op == 10) = false := by simp; omega
    have t1 : (op == 8) = true := by simp; omega
    have t2 : (fn == 0) = false := by simp; omega
    have Hh := Lib.hid h
    have Hg := Lib.hid g
    have Hv := Lib.hid hv
    clear h g hv
    go_enter Tryz.func126, Tryz.ntmps126
    go_wp2_with (first | (go_at_call 121; with_reducible refine (shift_w fn false (by assumption) _).mono ?_; rintro e' w1 ⟨rfl, rfl⟩))
    refine bodyPost_ret (v := .bool (false)) (by simp [results, Tryz.results126, go_sem]) rfl ⟨ret_bool (by rw [← Hv.out]; have h := Hh.out; have g := Hg.out; (try rw [g] at hs); simp [narB, h, g, hs]), by (repeat' (first | with_reducible refine Kp.setCell ?_ ?_ _ | with_reducible refine Kp.allocs ?_ _ _ | with_reducible refine Kp.drew ?_ | with_reducible refine Kp.drewN ?_ _)); all_goals first | exact Kp.refl w | (dsimp only; omega)⟩
  · have t0 : (op == 10) = false := by simp; omega
    have t1 : (op == 8) = true := by simp; omega
    have t2 : (fn == 0) = false := by simp; omega
    have Hh := Lib.hid h
    have Hg := Lib.hid g
    have Hv := Lib.hid hv
    clear h g hv
    go_enter Tryz.func126, Tryz.ntmps126
    go_wp2_with (first | (go_at_call 121; with_reducible refine (shift_w fn false (by assumption) _).mono ?_; rintro e' w1 ⟨rfl, rfl⟩))
    refine bodyPost_ret (v := .bool (false)) (by simp [results, Tryz.results126, go_sem]) rfl ⟨ret_bool (by rw [← Hv.out]; have h := Hh.out; have g := Hg.out; (try rw [g] at hs); simp [narB, h, g, hs]), by (repeat' (first | with_reducible refine Kp.setCell ?_ ?_ _ | with_reducible refine Kp.allocs ?_ _ _ | with_reducible refine Kp.drew ?_ | with_reducible refine Kp.drewN ?_ _)); all_goals first | exact Kp.refl w | (dsimp only; omega)⟩
  · have t0 : (op == 10) = false := by simp; omega
    have t1 : (op == 8) = false := by simp; omega
    have t2 : (fn == 0) = true := by simp; omega
    have Hh := Lib.hid h
    have Hg := Lib.hid g
    have Hv := Lib.hid hv
    clear h g hv
    go_enter Tryz.func126, Tryz.ntmps126
    go_wp2_with (first | (go_at_call 121; with_reducible refine (shift_w fn false (by assumption) _).mono ?_; rintro e' w1 ⟨rfl, rfl⟩))
    refine bodyPost_ret (v := .bool (true)) (by simp [results, Tryz.results126, go_sem]) rfl ⟨ret_bool (by rw [← Hv.out]; have h := Hh.out; have g := Hg.out; (try rw [g] at hs); simp [narB, h, g, hs]), by (repeat' (first | with_reducible refine Kp.setCell ?_ ?_ _ | with_reducible refine Kp.allocs ?_ _ _ | with_reducible refine Kp.drew ?_ | with_reducible refine Kp.drewN ?_ _)); all_goals first | exact Kp.refl w | (dsimp only; omega)⟩
  · have t0 : (op == 10) = false := by simp; omega
    have t1 : (op == 8) = false := by simp; omega
    have t2 : (fn == 0) = false := by simp; omega
    have t3 : (fn == 8) = true := by simp; omega
    have Hh := Lib.hid h
    have Hg := Lib.hid g
    have Hv := Lib.hid hv
    clear h g hv
    go_enter Tryz.func126, Tryz.ntmps126
    go_wp2_with (first | (go_at_call 121; with_reducible refine (shift_w fn false (by assumption) _).mono ?_; rintro e' w1 ⟨rfl, rfl⟩))
    refine bodyPost_ret (v := .bool (true)) (by simp [results, Tryz.results126, go_sem]) rfl ⟨ret_bool (by rw [← Hv.out]; have h := Hh.out; have g := Hg.out; (try rw [g] at hs); simp [narB, h, g, hs]), by (repeat' (first | with_reducible refine Kp.setCell ?_ ?_ _ | with_reducible refine Kp.allocs ?_ _ _ | with_reducible refine Kp.drew ?_ | with_reducible refine Kp.drewN ?_ _)); all_goals first | exact Kp.refl w | (dsimp only; omega)⟩
  · have t0 : (op == 10) = false := by simp; omega
    have t1 : (op == 8) = false := by simp; omega
    have t2 : (fn == 0) = false := by simp; omega
    have t3 : (fn == 8) = false := by simp; omega
    have Hh := Lib.hid h
    have Hg := Lib.hid g
    have Hv := Lib.hid hv
    clear h g hv
    go_enter Tryz.func126, Tryz.ntmps126
    go_wp2_with (first | (go_at_call 121; with_reducible refine (shift_w fn false (by assumption) _).mono ?_; rintro e' w1 ⟨rfl, rfl⟩))
    refine bodyPost_ret (v := .bool (false)) (by simp [results, Tryz.results126, go_sem]) rfl ⟨ret_bool (by rw [← Hv.out]; have h := Hh.out; have g := Hg.out; (try rw [g] at hs); simp [narB, h, g, hs]), by (repeat' (first | with_reducible refine Kp.setCell ?_ ?_ _ | with_reducible refine Kp.allocs ?_ _ _ | with_reducible refine Kp.drew ?_ | with_reducible refine Kp.drewN ?_ _)); all_goals first | exact Kp.refl w | (dsimp only; omega)⟩
  · have t0 : (op == 10) = true := by simp; omega
    have t1 : (fn == 0) = true := by simp; omega
    have Hh := Lib.hid h
    have Hg := Lib.hid g
    have Hv := Lib.hid hv
    clear h g hv
    go_enter Tryz.func126, Tryz.ntmps126
    go_wp2_with (first | (go_at_call 121; with_reducible refine (shift_w fn true (by assumption) _).mono ?_; rintro e' w1 ⟨rfl, rfl⟩))
    refine bodyPost_ret (v := .bool (true)) (by simp [results, Tryz.results126, go_sem]) rfl ⟨ret_bool (by rw [← Hv.out]; have h := Hh.out; have g := Hg.out; (try rw [g] at hs); simp [narB, h, g, hs]), by (repeat' (first | with_reducible refine Kp.setCell ?_ ?_ _ | with_reducible refine Kp.allocs ?_ _ _ | with_reducible refine Kp.drew ?_ | with_reducible refine Kp.drewN ?_ _)); all_goals first | exact Kp.refl w | (dsimp only; omega)⟩
  · have t0 : (op == 10) = true := by simp; omega
    have t1 : (fn == 0) = false := by simp; omega
    have Hh := Lib.hid h
    have Hg := Lib.hid g
    have Hv := Lib.hid hv
    clear h g hv
    go_enter Tryz.func126, Tryz.ntmps126
    go_wp2_with (first | (go_at_call 121; with_reducible refine (shift_w fn true (by assumption) _).mono ?_; rintro e' w1 ⟨rfl, rfl⟩))
    refine bodyPost_ret (v := .bool (decide (4 ≤ fn))) (by simp [results, Tryz.results126, go_sem]) rfl ⟨ret_bool (by rw [← Hv.out]; have h := Hh.out; have g := Hg.out; (try rw [g] at hs); simp [narB, h, g, hs]), by (repeat' (first | with_reducible refine Kp.setCell ?_ ?_ _ | with_reducible refine Kp.allocs ?_ _ _ | with_reducible refine Kp.drew ?_ | with_reducible refine Kp.drewN ?_ _)); all_goals first | exact Kp.refl w | (dsimp only; omega)⟩
  · have t0 : (op == 10) = true := by simp; omega
    have t1 : (fn == 0) = false := by simp; omega
    have Hh := Lib.hid h
    have Hg := Lib.hid g
    have Hv := Lib.hid hv
    clear h g hv
    go_enter Tryz.func126, Tryz.ntmps126
    go_wp2_with (first | (go_at_call 121; with_reducible refine (shift_w fn true (by assumption) _).mono ?_; rintro e' w1 ⟨rfl, rfl⟩))
    refine bodyPost_ret (v := .bool (decide (4 ≤ fn))) (by simp [results, Tryz.results126, go_sem]) rfl ⟨ret_bool (by rw [← Hv.out]; have h := Hh.out; have g := Hg.out; (try rw [g] at hs); simp [narB, h, g, hs]), by (repeat' (first | with_reducible refine Kp.setCell ?_ ?_ _ | with_reducible refine Kp.allocs ?_ _ _ | with_reducible refine Kp.drew ?_ | with_reducible refine Kp.drewN ?_ _)); all_goals first | exact Kp.refl w | (dsimp only; omega)⟩
  · have t0 : (op == 10) = false := by simp; omega
    have t1 : (op == 8) = true := by simp; omega
    have t2 : (fn == 0) = true := by simp; omega
    have Hh := Lib.hid h
    have Hg := Lib.hid g
    have Hv := Lib.hid hv
    clear h g hv
    go_enter Tryz.func126, Tryz.ntmps126
    go_wp2_with (first | (go_at_call 121; with_reducible refine (shift_w fn true (by assumption) _).mono ?_; rintro e' w1 ⟨rfl, rfl⟩))
    refine bodyPost_ret (v := .bool (true)) (by simp [results, Tryz.results126, go_sem]) rfl ⟨ret_bool (by rw [← Hv.out]; have h := Hh.out; have g := Hg.out; (try rw [g] at hs); simp [narB, h, g, hs]), by (repeat' (first | with_reducible refine Kp.setCell ?_ ?_ _ | with_reducible refine Kp.allocs ?_ _ _ | with_reducible refine Kp.drew ?_ | with_reducible refine Kp.drewN ?_ _)); all_goals first | exact Kp.refl w | (dsimp only; omega)⟩
  · have t0 : (op == 10) = false := by simp; omega
    have t1 : (op == 8) = true := by simp; omega
    have t2 : (fn == 0) = false := by simp; omega
    have Hh := Lib.hid h
    have Hg := Lib.hid g
    have Hv := Lib.hid hv
    clear h g hv
    go_enter Tryz.func126, Tryz.ntmps126
    go_wp2_with (first | (go_at_call 121; with_reducible refine (shift_w fn true (by assumption) _).mono ?_; rintro e' w1 ⟨rfl, rfl⟩))
    refine bodyPost_ret (v := .bool (decide (imm < 32))) (by simp [results, Tryz.results126, go_sem]) rfl ⟨ret_bool (by rw [← Hv.out]; have h := Hh.out; have g := Hg.out; (try rw [g] at hs); simp [narB, h, g, hs]), by (repeat' (first | with_reducible refine Kp.setCell ?_ ?_ _ | with_reducible refine Kp.allocs ?_ _ _ | with_reducible refine Kp.drew ?_ | with_reducible refine Kp.drewN ?_ _)); all_goals first | exact Kp.refl w | (dsimp only; omega)⟩
  · have t0 : (op == 10) = false := by simp; omega
    have t1 : (op == 8) = true := by simp; omega
    have t2 : (fn == 0) = false := by simp; omega
    have Hh := Lib.hid h
    have Hg := Lib.hid g
    have Hv := Lib.hid hv
    clear h g hv
    go_enter Tryz.func126, Tryz.ntmps126
    go_wp2_with (first | (go_at_call 121; with_reducible refine (shift_w fn true (by assumption) _).mono ?_; rintro e' w1 ⟨rfl, rfl⟩))
    refine bodyPost_ret (v := .bool (decide (imm < 32))) (by simp [results, Tryz.results126, go_sem]) rfl ⟨ret_bool (by rw [← Hv.out]; have h := Hh.out; have g := Hg.out; (try rw [g] at hs); simp [narB, h, g, hs]), by (repeat' (first | with_reducible refine Kp.setCell ?_ ?_ _ | with_reducible refine Kp.allocs ?_ _ _ | with_reducible refine Kp.drew ?_ | with_reducible refine Kp.drewN ?_ _)); all_goals first | exact Kp.refl w | (dsimp only; omega)⟩
  · have t0 : (op == 10) = false := by simp; omega
    have t1 : (op == 8) = false := by simp; omega
    have t2 : (fn == 0) = true := by simp; omega
    have Hh := Lib.hid h
    have Hg := Lib.hid g
    have Hv := Lib.hid hv
    clear h g hv
    go_enter Tryz.func126, Tryz.ntmps126
    go_wp2_with (first | (go_at_call 121; with_reducible refine (shift_w fn true (by assumption) _).mono ?_; rintro e' w1 ⟨rfl, rfl⟩))
    refine bodyPost_ret (v := .bool (true)) (by simp [results, Tryz.results126, go_sem]) rfl ⟨ret_bool (by rw [← Hv.out]; have h := Hh.out; have g := Hg.out; (try rw [g] at hs); simp [narB, h, g, hs]), by (repeat' (first | with_reducible refine Kp.setCell ?_ ?_ _ | with_reducible refine Kp.allocs ?_ _ _ | with_reducible refine Kp.drew ?_ | with_reducible refine Kp.drewN ?_ _)); all_goals first | exact Kp.refl w | (dsimp only; omega)⟩
  · have t0 : (op == 10) = false := by simp; omega
    have t1 : (op == 8) = false := by simp; omega
    have t2 : (fn == 0) = false := by simp; omega
    have t3 : (fn == 8) = true := by simp; omega
    have Hh := Lib.hid h
    have Hg := Lib.hid g
    have Hv := Lib.hid hv
    clear h g hv
    go_enter Tryz.func126, Tryz.ntmps126
    go_wp2_with (first | (go_at_call 121; with_reducible refine (shift_w fn true (by assumption) _).mono ?_; rintro e' w1 ⟨rfl, rfl⟩))
    refine bodyPost_ret (v := .bool (true)) (by simp [results, Tryz.results126, go_sem]) rfl ⟨ret_bool (by rw [← Hv.out]; have h := Hh.out; have g := Hg.out; (try rw [g] at hs); simp [narB, h, g, hs]), by (repeat' (first | with_reducible refine Kp.setCell ?_ ?_ _ | with_reducible refine Kp.allocs ?_ _ _ | with_reducible refine Kp.drew ?_ | with_reducible refine Kp.drewN ?_ _)); all_goals first | exact Kp.refl w | (dsimp only; omega)⟩
  · have t0 : (op == 10) = false := by simp; omega
    have t1 : (op == 8) = false := by simp; omega
    have t2 : (fn == 0) = false := by simp; omega
    have t3 : (fn == 8) = false := by simp; omega
    have Hh := Lib.hid h
    have Hg := Lib.hid g
    have Hv := Lib.hid hv
    clear h g hv
    go_enter Tryz.func126, Tryz.ntmps126
    go_wp2_with (first | (go_at_call 121; with_reducible refine (shift_w fn true (by assumption) _).mono ?_; rintro e' w1 ⟨rfl, rfl⟩))
    refine bodyPost_ret (v := .bool (true)) (by simp [results, Tryz.results126, go_sem]) rfl ⟨ret_bool (by rw [← Hv.out]; have h := Hh.out; have g := Hg.out; (try rw [g] at hs); simp [narB, h, g, hs]), by (repeat' (first | with_reducible refine Kp.setCell ?_ ?_ _ | with_reducible refine Kp.allocs ?_ _ _ | with_reducible refine Kp.drew ?_ | with_reducible refine Kp.drewN ?_ _)); all_goals first | exact Kp.refl w | (dsimp only; omega)⟩
set_option maxRecDepth 4000 in
set_option maxHeartbeats 4000000 in
theorem upper_w (op x : Int) (x0 : 0 ≤ x) (x1 : x < 4294967296) (w : World) (B : Nat) (hB : B < w.heap.size) (hc : w.cell? ⟨B, 0, none⟩ = some (.int .i64 op)) :
    Calls Tryz.prog 123 #[.int .u32 x, .pointer (some ⟨B, 0, none⟩)] w fun e w' => RdP e (spUpper op x) ∧ Kp w w' := by
  have brd := fl_bd x 128 32 (by omega)
  have bf3 := fl_bd x 4096 8 (by omega)
  have br1 := fl_bd x 32768 32 (by omega)
  have br2 := fl_bd x 1048576 32 (by omega)
  have bf7 := fl_bd x 33554432 128 (by omega)
  have biU := iU_bd x
  have A0 : At (w.heap.size) [.int .i64 0, .int .i64 0, .int .i64 0, .int .i64 0, .int .i64 0, .int .i64 0, .int .i64 0, .bool false, .bool false, .int .i64 0, .int .u32 0] (w.alloc (.cells #[.int .i64 0, .int .i64 0, .int .i64 0, .int .i64 0, .int .i64 0, .int .i64 0, .int .i64 0, .bool false, .bool false, .int .i64 0, .int .u32 0] 24)) := (At.new' w [.int .i64 0, .int .i64 0, .int .i64 0, .int .i64 0, .int .i64 0, .int .i64 0, .int .i64 0, .bool false, .bool false, .int .i64 0, .int .u32 0] 24 (by simp))
  have R0 : Rm (w.heap.size) 11 (w.alloc (.cells #[.int .i64 0, .int .i64 0, .int .i64 0, .int .i64 0, .int .i64 0, .int .i64 0, .int .i64 0, .bool false, .bool false, .int .i64 0, .int .u32 0] 24)) := (Rm.new' w [.int .i64 0, .int .i64 0, .int .i64 0, .int .i64 0, .int .i64 0, .int .i64 0, .int .i64 0, .bool false, .bool false, .int .i64 0, .int .u32 0] 24 11 (by simp) (by simp))
  have kb : Bh w (w.heap.size + 1) (w.alloc (.cells #[.int .i64 0, .int .i64 0, .int .i64 0, .int .i64 0, .int .i64 0, .int .i64 0, .int .i64 0, .bool false, .bool false, .int .i64 0, .int .u32 0] 24)) := ⟨((Kp.refl w).allocs _ _), by simp, by simp⟩
  have A1 : At B [.int .i64 op] (w.alloc (.cells #[.int .i64 0, .int .i64 0, .int .i64 0, .int .i64 0, .int .i64 0, .int .i64 0, .int .i64 0, .bool false, .bool false, .int .i64 0, .int .u32 0] 24)) := At.alloc (fun i v hi => by
    match i, hi with
    | 0, hi => cases hi; exact hc) _
  go_enter Tryz.func123, Tryz.ntmps123
  go_wp2
  refine wp_region_held_drew (S := (fun w' => At (B) [.int .i64 op] w' ∧ Rm (w.heap.size) 11 w' ∧ Bh w (w.heap.size + 1) w')) (by kernel_rfl) ⟨At.drew (by with_reducible assumption), Rm.drew (by with_reducible assumption), Bh.drew (by with_reducible assumption)⟩ (fun hS => ?_)
  (refine tk 0 ?_ rfl (Or.inl ⟨by rfl, ?_⟩) hS ?_; rotate_left; focus (intro w' hSw; obtain ⟨s0, s1, sb⟩ := hSw; have c0_0 := s0 0 _ rfl; go_simp <;> try with_reducible rfl))
  try simp only [Act.put, zA, zB, zC]
  (refine tk 1 ?_ rfl (Or.inl ⟨by rfl, ?_⟩) hS ?_; rotate_left; focus (intro w' hSw; obtain ⟨s0, s1, sb⟩ := hSw; go_simp <;> try with_reducible rfl))
  try simp only [Act.put, zA, zB, zC]
  (refine tk 3 ?_ rfl (Or.inl ⟨by rfl, ?_⟩) hS ?_; rotate_left; focus (intro w' hSw; obtain ⟨s0, s1, sb⟩ := hSw; go_simp <;> try with_reducible rfl))
  try simp only [Act.put, zA, zB, zC]
  refine rdy 2 rfl (fun K hK => ?_)
  (refine take_if (by rfl) ?_; obtain ⟨s0, s1, sb⟩ := hS; go_simp; (with_reducible refine (quiet_kp (rd_w x x0 x1 _)).mono ?_); rintro e' w' ⟨rfl, qk⟩; have t0 := At.kp s0 qk (Nat.lt_of_lt_of_le (show B < w.heap.size + 1 by omega) sb.le); have t1 := Rm.kp s1 qk (Nat.lt_of_lt_of_le (show w.heap.size < w.heap.size + 1 by omega) sb.le); have tb := Bh.step sb qk; clear qk; refine hK.out _ _ ⟨t0, t1, tb⟩ (fun hS => ?_))
  clear hK K
  try simp only [Act.put, zA, zB, zC]
  refine rdy 4 rfl (fun K hK => ?_)
  (refine take_if (by rfl) ?_; obtain ⟨s0, s1, sb⟩ := hS; go_simp; (with_reducible refine (quiet_kp (immU_w x x0 x1 _)).mono ?_); rintro e' w' ⟨rfl, qk⟩; have t0 := At.kp s0 qk (Nat.lt_of_lt_of_le (show B < w.heap.size + 1 by omega) sb.le); have t1 := Rm.kp s1 qk (Nat.lt_of_lt_of_le (show w.heap.size < w.heap.size + 1 by omega) sb.le); have tb := Bh.step sb qk; clear qk; refine hK.out _ _ ⟨t0, t1, tb⟩ (fun hS => ?_))
  clear hK K
  try simp only [Act.put, zA, zB, zC]
  (refine tk 5 ?_ rfl (Or.inl ⟨by rfl, ?_⟩) hS ?_; rotate_left; focus (intro w' hSw; obtain ⟨s0, s1, sb⟩ := hSw; go_simp <;> try with_reducible rfl))
  try simp only [Act.put, zA, zB, zC]
  refine rdy 6 rfl (fun K hK => ?_)
  obtain ⟨s0, s1, sb⟩ := hS
  have c0_0 := s0 0 _ rfl
  obtain ⟨⟨_, _⟩, _, ⟨_, _⟩, _, ⟨_, _⟩, _, ⟨_, _⟩, _, ⟨_, _⟩, _, ⟨_, _⟩, _, ⟨_, _⟩, _, ⟨_, _⟩, _, ⟨_, _⟩, _, ⟨_, _⟩, _, ⟨_, _⟩, _⟩ := s1.out11; 
  go_simp
  refine hK.out _ _ ⟨?_, ?_, ?_⟩ (fun hS => ?_)
  · repeat' (first | with_reducible assumption | (with_reducible refine At.set ?_ ?_ _))
    all_goals first | with_reducible assumption | (dsimp only; omega)
  · repeat' (first | with_reducible assumption | (with_reducible refine Rm.set ?_ _))
    all_goals first | with_reducible assumption | (dsimp only; omega)
  · repeat' (first | with_reducible assumption | with_reducible refine Bh.set2 ?_ ?_)
    all_goals first | with_reducible assumption | (dsimp only; omega)
  clear hK K
  try simp only [Act.put, zA, zB, zC]
  (refine tk 7 ?_ rfl (Or.inl ⟨by rfl, ?_⟩) hS ?_; rotate_left; focus (intro w' hSw; obtain ⟨s0, s1, sb⟩ := hSw; go_simp <;> try with_reducible rfl))
  try simp only [Act.put, zA, zB, zC]
  refine wpAnyH_done (by kernel_rfl) ?_ _
  obtain ⟨s0, s1, sb⟩ := hS
  have c0_0 := s0 0 _ rfl
  go_wp2
  refine bodyPost_ret (v := .tuple #[Ins.v ⟨op, 0, ((fl x 128 32)), 0, 0, (iU x), 0, false, false⟩ 0 0, .bool true]) ?_ rfl ⟨RdP.mk ⟨op, 0, ((fl x 128 32)), 0, 0, (iU x), 0, false, false⟩ true rfl rfl, ?_⟩
  · simp [results, Tryz.results123, go_sem, Ins.v, *]
  · with_reducible exact sb.kp
end Go.Proofs.YtlfeandnpflaaaaGreatDoor
