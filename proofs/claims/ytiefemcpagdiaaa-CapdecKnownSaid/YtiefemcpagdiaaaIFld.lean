/-
  Contracts of base's word (its fields, its numbers), and of the document's Field, Signed and numbers. No condition.
-/
import Derived.Test.YtiefemcpagdiaaaKp
import Derived.Test.YtiefemcpagdiaaaIMath
namespace Go.Proofs.Ytiefemcpagdiaaa
open Go.ChangeShapes Go.WideShapes Go.ChangeAt Go.RowKit
set_option linter.unusedVariables false
set_option linter.unusedSimpArgs false

theorem op_w (x : Int) (x0 : 0 ≤ x) (x1 : x < 4294967296) (w : World) :
    Calls Try.prog 14 #[.int .u32 x] w fun e w' => e = .returned (.int .i64 (fl x 1 128)) ∧ w = w' := by
  go_enter Try.func14, Try.ntmps14
  go_wp2
  go_ret
  exact ⟨ret_int (by unfold fl; omega), rfl⟩
theorem rd_w (x : Int) (x0 : 0 ≤ x) (x1 : x < 4294967296) (w : World) :
    Calls Try.prog 46 #[.int .u32 x] w fun e w' => e = .returned (.int .i64 (fl x 128 32)) ∧ w = w' := by
  go_enter Try.func46, Try.ntmps46
  go_wp2
  go_ret
  exact ⟨ret_int (by unfold fl; omega), rfl⟩
theorem f3_w (x : Int) (x0 : 0 ≤ x) (x1 : x < 4294967296) (w : World) :
    Calls Try.prog 45 #[.int .u32 x] w fun e w' => e = .returned (.int .i64 (fl x 4096 8)) ∧ w = w' := by
  go_enter Try.func45, Try.ntmps45
  go_wp2
  go_ret
  exact ⟨ret_int (by unfold fl; omega), rfl⟩
theorem rs1_w (x : Int) (x0 : 0 ≤ x) (x1 : x < 4294967296) (w : World) :
    Calls Try.prog 47 #[.int .u32 x] w fun e w' => e = .returned (.int .i64 (fl x 32768 32)) ∧ w = w' := by
  go_enter Try.func47, Try.ntmps47
  go_wp2
  go_ret
  exact ⟨ret_int (by unfold fl; omega), rfl⟩
theorem rs2_w (x : Int) (x0 : 0 ≤ x) (x1 : x < 4294967296) (w : World) :
    Calls Try.prog 55 #[.int .u32 x] w fun e w' => e = .returned (.int .i64 (fl x 1048576 32)) ∧ w = w' := by
  go_enter Try.func55, Try.ntmps55
  go_wp2
  go_ret
  exact ⟨ret_int (by unfold fl; omega), rfl⟩
theorem f7_w (x : Int) (x0 : 0 ≤ x) (x1 : x < 4294967296) (w : World) :
    Calls Try.prog 57 #[.int .u32 x] w fun e w' => e = .returned (.int .i64 (fl x 33554432 128)) ∧ w = w' := by
  go_enter Try.func57, Try.ntmps57
  go_wp2
  go_ret
  exact ⟨ret_int (by unfold fl; omega), rfl⟩
theorem cf_25_20 (x : Int) (x0 : 0 ≤ x) (x1 : x < 4294967296) (w : World) :
    Calls Try.prog 39 #[.int .u32 x, .int .u64 25, .int .u64 20] w fun e w' => e = .returned (.int .i64 (fl x 1048576 64)) ∧ w = w' := by
  go_enter Try.func39, Try.ntmps39
  go_wp2
  go_ret
  exact ⟨ret_int (by unfold fl; omega), rfl⟩
theorem cf_31_26 (x : Int) (x0 : 0 ≤ x) (x1 : x < 4294967296) (w : World) :
    Calls Try.prog 39 #[.int .u32 x, .int .u64 31, .int .u64 26] w fun e w' => e = .returned (.int .i64 (fl x 67108864 64)) ∧ w = w' := by
  go_enter Try.func39, Try.ntmps39
  go_wp2
  go_ret
  exact ⟨ret_int (by unfold fl; omega), rfl⟩
theorem cf_31_27 (x : Int) (x0 : 0 ≤ x) (x1 : x < 4294967296) (w : World) :
    Calls Try.prog 39 #[.int .u32 x, .int .u64 31, .int .u64 27] w fun e w' => e = .returned (.int .i64 (fl x 134217728 32)) ∧ w = w' := by
  go_enter Try.func39, Try.ntmps39
  go_wp2
  go_ret
  exact ⟨ret_int (by unfold fl; omega), rfl⟩
theorem cf_31_20 (x : Int) (x0 : 0 ≤ x) (x1 : x < 4294967296) (w : World) :
    Calls Try.prog 39 #[.int .u32 x, .int .u64 31, .int .u64 20] w fun e w' => e = .returned (.int .i64 (fl x 1048576 4096)) ∧ w = w' := by
  go_enter Try.func39, Try.ntmps39
  go_wp2
  go_ret
  exact ⟨ret_int (by unfold fl; omega), rfl⟩
theorem immI_w (x : Int) (x0 : 0 ≤ x) (x1 : x < 4294967296) (w : World) :
    Calls Try.prog 48 #[.int .u32 x] w fun e w' => e = .returned (.int .i64 (iI x)) ∧ w = w' := by
  go_enter Try.func48, Try.ntmps48
  go_wp2
  go_ret
  exact ⟨ret_int (iI_eq x x0 x1), rfl⟩
theorem immS_w (x : Int) (x0 : 0 ≤ x) (x1 : x < 4294967296) (w : World) :
    Calls Try.prog 56 #[.int .u32 x] w fun e w' => e = .returned (.int .i64 (iS x)) ∧ w = w' := by
  go_enter Try.func56, Try.ntmps56
  go_wp2
  go_ret
  exact ⟨ret_int (iS_eq x x0 x1), rfl⟩
theorem immB_w (x : Int) (x0 : 0 ≤ x) (x1 : x < 4294967296) (w : World) :
    Calls Try.prog 58 #[.int .u32 x] w fun e w' => e = .returned (.int .i64 (iB x)) ∧ w = w' := by
  go_enter Try.func58, Try.ntmps58
  go_wp2
  go_ret
  exact ⟨ret_int (iB_eq x x0 x1), rfl⟩
theorem immU_w (x : Int) (x0 : 0 ≤ x) (x1 : x < 4294967296) (w : World) :
    Calls Try.prog 52 #[.int .u32 x] w fun e w' => e = .returned (.int .i64 (iU x)) ∧ w = w' := by
  go_enter Try.func52, Try.ntmps52
  go_wp2
  go_ret
  exact ⟨ret_int (iU_eq x x0 x1), rfl⟩
theorem immJ_w (x : Int) (x0 : 0 ≤ x) (x1 : x < 4294967296) (w : World) :
    Calls Try.prog 59 #[.int .u32 x] w fun e w' => e = .returned (.int .i64 (iJ x)) ∧ w = w' := by
  go_enter Try.func59, Try.ntmps59
  go_wp2
  go_ret
  exact ⟨ret_int (iJ_eq x x0 x1), rfl⟩
theorem rf_31_20 (x : Int) (x0 : 0 ≤ x) (x1 : x < 4294967296) (w : World) :
    Calls Try.prog 23 #[.int .u32 x, .int .i64 31, .int .i64 20] w fun e w' => e = .returned (.int .i64 (fl x 1048576 4096)) ∧ w = w' := by
  go_enter Try.func23, Try.ntmps23
  go_wp2
  go_ret
  exact ⟨ret_int (by unfold fl; first | (rw [and_p 12 4096 4095 (by decide) (by omega) (by omega) _ (by omega) (by omega)]; done) | rw [and_p 12 4096 4095 (by decide) (by omega) (by omega) _ (by omega) (by omega), Int.ediv_one]), rfl⟩
theorem rf_31_25 (x : Int) (x0 : 0 ≤ x) (x1 : x < 4294967296) (w : World) :
    Calls Try.prog 23 #[.int .u32 x, .int .i64 31, .int .i64 25] w fun e w' => e = .returned (.int .i64 (fl x 33554432 128)) ∧ w = w' := by
  go_enter Try.func23, Try.ntmps23
  go_wp2
  go_ret
  exact ⟨ret_int (by unfold fl; first | (rw [and_p 7 128 127 (by decide) (by omega) (by omega) _ (by omega) (by omega)]; done) | rw [and_p 7 128 127 (by decide) (by omega) (by omega) _ (by omega) (by omega), Int.ediv_one]), rfl⟩
theorem rf_11_7 (x : Int) (x0 : 0 ≤ x) (x1 : x < 4294967296) (w : World) :
    Calls Try.prog 23 #[.int .u32 x, .int .i64 11, .int .i64 7] w fun e w' => e = .returned (.int .i64 (fl x 128 32)) ∧ w = w' := by
  go_enter Try.func23, Try.ntmps23
  go_wp2
  go_ret
  exact ⟨ret_int (by unfold fl; first | (rw [and_p 5 32 31 (by decide) (by omega) (by omega) _ (by omega) (by omega)]; done) | rw [and_p 5 32 31 (by decide) (by omega) (by omega) _ (by omega) (by omega), Int.ediv_one]), rfl⟩
theorem rf_31_31 (x : Int) (x0 : 0 ≤ x) (x1 : x < 4294967296) (w : World) :
    Calls Try.prog 23 #[.int .u32 x, .int .i64 31, .int .i64 31] w fun e w' => e = .returned (.int .i64 (fl x 2147483648 2)) ∧ w = w' := by
  go_enter Try.func23, Try.ntmps23
  go_wp2
  go_ret
  exact ⟨ret_int (by unfold fl; first | (rw [and_p 1 2 1 (by decide) (by omega) (by omega) _ (by omega) (by omega)]; done) | rw [and_p 1 2 1 (by decide) (by omega) (by omega) _ (by omega) (by omega), Int.ediv_one]), rfl⟩
theorem rf_7_7 (x : Int) (x0 : 0 ≤ x) (x1 : x < 4294967296) (w : World) :
    Calls Try.prog 23 #[.int .u32 x, .int .i64 7, .int .i64 7] w fun e w' => e = .returned (.int .i64 (fl x 128 2)) ∧ w = w' := by
  go_enter Try.func23, Try.ntmps23
  go_wp2
  go_ret
  exact ⟨ret_int (by unfold fl; first | (rw [and_p 1 2 1 (by decide) (by omega) (by omega) _ (by omega) (by omega)]; done) | rw [and_p 1 2 1 (by decide) (by omega) (by omega) _ (by omega) (by omega), Int.ediv_one]), rfl⟩
theorem rf_30_25 (x : Int) (x0 : 0 ≤ x) (x1 : x < 4294967296) (w : World) :
    Calls Try.prog 23 #[.int .u32 x, .int .i64 30, .int .i64 25] w fun e w' => e = .returned (.int .i64 (fl x 33554432 64)) ∧ w = w' := by
  go_enter Try.func23, Try.ntmps23
  go_wp2
  go_ret
  exact ⟨ret_int (by unfold fl; first | (rw [and_p 6 64 63 (by decide) (by omega) (by omega) _ (by omega) (by omega)]; done) | rw [and_p 6 64 63 (by decide) (by omega) (by omega) _ (by omega) (by omega), Int.ediv_one]), rfl⟩
theorem rf_11_8 (x : Int) (x0 : 0 ≤ x) (x1 : x < 4294967296) (w : World) :
    Calls Try.prog 23 #[.int .u32 x, .int .i64 11, .int .i64 8] w fun e w' => e = .returned (.int .i64 (fl x 256 16)) ∧ w = w' := by
  go_enter Try.func23, Try.ntmps23
  go_wp2
  go_ret
  exact ⟨ret_int (by unfold fl; first | (rw [and_p 4 16 15 (by decide) (by omega) (by omega) _ (by omega) (by omega)]; done) | rw [and_p 4 16 15 (by decide) (by omega) (by omega) _ (by omega) (by omega), Int.ediv_one]), rfl⟩
theorem rf_19_12 (x : Int) (x0 : 0 ≤ x) (x1 : x < 4294967296) (w : World) :
    Calls Try.prog 23 #[.int .u32 x, .int .i64 19, .int .i64 12] w fun e w' => e = .returned (.int .i64 (fl x 4096 256)) ∧ w = w' := by
  go_enter Try.func23, Try.ntmps23
  go_wp2
  go_ret
  exact ⟨ret_int (by unfold fl; first | (rw [and_p 8 256 255 (by decide) (by omega) (by omega) _ (by omega) (by omega)]; done) | rw [and_p 8 256 255 (by decide) (by omega) (by omega) _ (by omega) (by omega), Int.ediv_one]), rfl⟩
theorem rf_20_20 (x : Int) (x0 : 0 ≤ x) (x1 : x < 4294967296) (w : World) :
    Calls Try.prog 23 #[.int .u32 x, .int .i64 20, .int .i64 20] w fun e w' => e = .returned (.int .i64 (fl x 1048576 2)) ∧ w = w' := by
  go_enter Try.func23, Try.ntmps23
  go_wp2
  go_ret
  exact ⟨ret_int (by unfold fl; first | (rw [and_p 1 2 1 (by decide) (by omega) (by omega) _ (by omega) (by omega)]; done) | rw [and_p 1 2 1 (by decide) (by omega) (by omega) _ (by omega) (by omega), Int.ediv_one]), rfl⟩
theorem rf_30_21 (x : Int) (x0 : 0 ≤ x) (x1 : x < 4294967296) (w : World) :
    Calls Try.prog 23 #[.int .u32 x, .int .i64 30, .int .i64 21] w fun e w' => e = .returned (.int .i64 (fl x 2097152 1024)) ∧ w = w' := by
  go_enter Try.func23, Try.ntmps23
  go_wp2
  go_ret
  exact ⟨ret_int (by unfold fl; first | (rw [and_p 10 1024 1023 (by decide) (by omega) (by omega) _ (by omega) (by omega)]; done) | rw [and_p 10 1024 1023 (by decide) (by omega) (by omega) _ (by omega) (by omega), Int.ediv_one]), rfl⟩
theorem rf_14_12 (x : Int) (x0 : 0 ≤ x) (x1 : x < 4294967296) (w : World) :
    Calls Try.prog 23 #[.int .u32 x, .int .i64 14, .int .i64 12] w fun e w' => e = .returned (.int .i64 (fl x 4096 8)) ∧ w = w' := by
  go_enter Try.func23, Try.ntmps23
  go_wp2
  go_ret
  exact ⟨ret_int (by unfold fl; first | (rw [and_p 3 8 7 (by decide) (by omega) (by omega) _ (by omega) (by omega)]; done) | rw [and_p 3 8 7 (by decide) (by omega) (by omega) _ (by omega) (by omega), Int.ediv_one]), rfl⟩
theorem rf_19_15 (x : Int) (x0 : 0 ≤ x) (x1 : x < 4294967296) (w : World) :
    Calls Try.prog 23 #[.int .u32 x, .int .i64 19, .int .i64 15] w fun e w' => e = .returned (.int .i64 (fl x 32768 32)) ∧ w = w' := by
  go_enter Try.func23, Try.ntmps23
  go_wp2
  go_ret
  exact ⟨ret_int (by unfold fl; first | (rw [and_p 5 32 31 (by decide) (by omega) (by omega) _ (by omega) (by omega)]; done) | rw [and_p 5 32 31 (by decide) (by omega) (by omega) _ (by omega) (by omega), Int.ediv_one]), rfl⟩
theorem rf_24_20 (x : Int) (x0 : 0 ≤ x) (x1 : x < 4294967296) (w : World) :
    Calls Try.prog 23 #[.int .u32 x, .int .i64 24, .int .i64 20] w fun e w' => e = .returned (.int .i64 (fl x 1048576 32)) ∧ w = w' := by
  go_enter Try.func23, Try.ntmps23
  go_wp2
  go_ret
  exact ⟨ret_int (by unfold fl; first | (rw [and_p 5 32 31 (by decide) (by omega) (by omega) _ (by omega) (by omega)]; done) | rw [and_p 5 32 31 (by decide) (by omega) (by omega) _ (by omega) (by omega), Int.ediv_one]), rfl⟩
theorem rf_31_26 (x : Int) (x0 : 0 ≤ x) (x1 : x < 4294967296) (w : World) :
    Calls Try.prog 23 #[.int .u32 x, .int .i64 31, .int .i64 26] w fun e w' => e = .returned (.int .i64 (fl x 67108864 64)) ∧ w = w' := by
  go_enter Try.func23, Try.ntmps23
  go_wp2
  go_ret
  exact ⟨ret_int (by unfold fl; first | (rw [and_p 6 64 63 (by decide) (by omega) (by omega) _ (by omega) (by omega)]; done) | rw [and_p 6 64 63 (by decide) (by omega) (by omega) _ (by omega) (by omega), Int.ediv_one]), rfl⟩
theorem rf_25_20 (x : Int) (x0 : 0 ≤ x) (x1 : x < 4294967296) (w : World) :
    Calls Try.prog 23 #[.int .u32 x, .int .i64 25, .int .i64 20] w fun e w' => e = .returned (.int .i64 (fl x 1048576 64)) ∧ w = w' := by
  go_enter Try.func23, Try.ntmps23
  go_wp2
  go_ret
  exact ⟨ret_int (by unfold fl; first | (rw [and_p 6 64 63 (by decide) (by omega) (by omega) _ (by omega) (by omega)]; done) | rw [and_p 6 64 63 (by decide) (by omega) (by omega) _ (by omega) (by omega), Int.ediv_one]), rfl⟩
theorem rf_31_27 (x : Int) (x0 : 0 ≤ x) (x1 : x < 4294967296) (w : World) :
    Calls Try.prog 23 #[.int .u32 x, .int .i64 31, .int .i64 27] w fun e w' => e = .returned (.int .i64 (fl x 134217728 32)) ∧ w = w' := by
  go_enter Try.func23, Try.ntmps23
  go_wp2
  go_ret
  exact ⟨ret_int (by unfold fl; first | (rw [and_p 5 32 31 (by decide) (by omega) (by omega) _ (by omega) (by omega)]; done) | rw [and_p 5 32 31 (by decide) (by omega) (by omega) _ (by omega) (by omega), Int.ediv_one]), rfl⟩
theorem rf_6_0 (x : Int) (x0 : 0 ≤ x) (x1 : x < 4294967296) (w : World) :
    Calls Try.prog 23 #[.int .u32 x, .int .i64 6, .int .i64 0] w fun e w' => e = .returned (.int .i64 (fl x 1 128)) ∧ w = w' := by
  go_enter Try.func23, Try.ntmps23
  go_wp2
  go_ret
  exact ⟨ret_int (by unfold fl; first | (rw [and_p 7 128 127 (by decide) (by omega) (by omega) _ (by omega) (by omega)]; done) | rw [and_p 7 128 127 (by decide) (by omega) (by omega) _ (by omega) (by omega), Int.ediv_one]), rfl⟩
theorem rf_31_12 (x : Int) (x0 : 0 ≤ x) (x1 : x < 4294967296) (w : World) :
    Calls Try.prog 23 #[.int .u32 x, .int .i64 31, .int .i64 12] w fun e w' => e = .returned (.int .i64 (fl x 4096 1048576)) ∧ w = w' := by
  go_enter Try.func23, Try.ntmps23
  go_wp2
  go_ret
  exact ⟨ret_int (by unfold fl; first | (rw [and_p 20 1048576 1048575 (by decide) (by omega) (by omega) _ (by omega) (by omega)]; done) | rw [and_p 20 1048576 1048575 (by decide) (by omega) (by omega) _ (by omega) (by omega), Int.ediv_one]), rfl⟩
theorem rsg_12 (v : Int) (x0 : 0 ≤ v) (x1 : v < 4096) (w : World) :
    Calls Try.prog 44 #[.int .i64 v, .int .i64 12] w fun e w' => e = .returned (.int .i64 (sgn 4096 v)) ∧ w = w' := by
  go_enter Try.func44, Try.ntmps44
  go_wp2
  all_goals go_ret
  all_goals exact ⟨ret_int (by simp at *; unfold sgn; split <;> omega), rfl⟩
theorem rsg_13 (v : Int) (x0 : 0 ≤ v) (x1 : v < 8192) (w : World) :
    Calls Try.prog 44 #[.int .i64 v, .int .i64 13] w fun e w' => e = .returned (.int .i64 (sgn 8192 v)) ∧ w = w' := by
  go_enter Try.func44, Try.ntmps44
  go_wp2
  all_goals go_ret
  all_goals exact ⟨ret_int (by simp at *; unfold sgn; split <;> omega), rfl⟩
theorem rsg_21 (v : Int) (x0 : 0 ≤ v) (x1 : v < 2097152) (w : World) :
    Calls Try.prog 44 #[.int .i64 v, .int .i64 21] w fun e w' => e = .returned (.int .i64 (sgn 2097152 v)) ∧ w = w' := by
  go_enter Try.func44, Try.ntmps44
  go_wp2
  all_goals go_ret
  all_goals exact ⟨ret_int (by simp at *; unfold sgn; split <;> omega), rfl⟩
theorem rsg_20 (v : Int) (x0 : 0 ≤ v) (x1 : v < 1048576) (w : World) :
    Calls Try.prog 44 #[.int .i64 v, .int .i64 20] w fun e w' => e = .returned (.int .i64 (sgn 1048576 v)) ∧ w = w' := by
  go_enter Try.func44, Try.ntmps44
  go_wp2
  all_goals go_ret
  all_goals exact ⟨ret_int (by simp at *; unfold sgn; split <;> omega), rfl⟩
theorem rI_w (x : Int) (x0 : 0 ≤ x) (x1 : x < 4294967296) (w : World) :
    Calls Try.prog 26 #[.int .u32 x] w fun e w' => e = .returned (.int .i64 (iI x)) ∧ w = w' := by
  have b_31_20 := fl_bd x 1048576 4096 (by omega)
  go_enter Try.func26, Try.ntmps26
  go_wp2_with (first | (go_at_call 23; with_reducible refine (rf_31_20 x x0 x1 _).mono ?_; rintro e' w1 ⟨rfl, rfl⟩) | (go_at_call 44; refine (rsg_12 _ (by omega) (by omega) _).mono ?_; rintro e' w1 ⟨rfl, rfl⟩))
  go_ret
  exact ⟨ret_int (rfl), rfl⟩
theorem rS_w (x : Int) (x0 : 0 ≤ x) (x1 : x < 4294967296) (w : World) :
    Calls Try.prog 25 #[.int .u32 x] w fun e w' => e = .returned (.int .i64 (iS x)) ∧ w = w' := by
  have b_31_25 := fl_bd x 33554432 128 (by omega)
  have b_11_7 := fl_bd x 128 32 (by omega)
  go_enter Try.func25, Try.ntmps25
  go_wp2_with (first | (go_at_call 23; with_reducible refine (rf_31_25 x x0 x1 _).mono ?_; rintro e' w1 ⟨rfl, rfl⟩) | (go_at_call 23; with_reducible refine (rf_11_7 x x0 x1 _).mono ?_; rintro e' w1 ⟨rfl, rfl⟩) | (go_at_call 44; refine (rsg_12 _ (by omega) (by omega) _).mono ?_; rintro e' w1 ⟨rfl, rfl⟩))
  go_ret
  exact ⟨ret_int (rfl), rfl⟩
end Go.Proofs.Ytiefemcpagdiaaa
