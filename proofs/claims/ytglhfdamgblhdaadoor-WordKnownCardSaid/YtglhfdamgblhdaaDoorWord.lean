/-
  Contracts of package word: whatever numbers Alu, Branch and Extend are called with, they return what the plain functions of WMath say, and leave the world as it was. Numbers are within their types.
-/
import Derived.Test.YtglhfdamgblhdaaDoorRows
import Derived.Test.YtglhfdamgblhdaaDoorWMath
import Derived.WalkKit
import Derived.ProofKit
import Derived.OpenShut
import Derived.Lib.Hide
namespace Go.Proofs.YtglhfdamgblhdaaDoor
open Go.ChangeShapes Go.WideShapes Go.ChangeAt Go.RowKit
set_option linter.unusedVariables false
set_option linter.unusedSimpArgs false
theorem ret_int {k : IntKind} {a b : Int} (h : a = b) : Ending.returned (.int k a) = .returned (.int k b) := by rw [h]
theorem ret_bool {a b : Bool} (h : a = b) : Ending.returned (.bool a) = .returned (.bool b) := by rw [h]
theorem ret_two {k : IntKind} {a b : Int} {c d : Bool} (h : a = b) (h2 : c = d) : Ending.returned (.tuple #[.int k a, .bool c]) = .returned (.tuple #[.int k b, .bool d]) := by rw [h, h2]
theorem ret_bb {a b : Bool} {c d : Bool} (h : a = b) (h2 : c = d) : Ending.returned (.tuple #[.bool a, .bool c]) = .returned (.tuple #[.bool b, .bool d]) := by rw [h, h2]

theorem ext_w (a i : Int) (h0 : 0 ≤ a) (h1 : a < 18446744073709551616) (w : World) :
    Calls Tryd.prog 10 #[.int .u64 a, .int .i64 i] w fun e w' => e = .returned (.int .u64 (extV a i)) ∧ w = w' := by
  go_enter Tryd.func10, Tryd.ntmps10
  go_wp2
  all_goals
    go_ret
    refine ⟨ret_int ?_, rfl⟩
    simp_all only [beq_iff_eq, beq_eq_false_iff_ne, extV]
    try simp only [IntKind.wrap_u64, wrap32, sx, IntKind.wrap, IntKind.bits, IntKind.signed]
    try simp
    try (split <;> omega)
    try omega
theorem ss64_w (a i : Int) (h0 : 0 ≤ a) (h1 : a < 18446744073709551616) (hi : 0 ≤ i) (hi2 : i < 64) (w : World) :
    Calls Tryd.prog 24 #[.int .u64 a, .int .u64 i, .int .u64 64] w fun e w' => e = .returned (.int .u64 (sraV 18446744073709551616 a i.toNat)) ∧ w = w' := by
  go_enter Tryd.func24, Tryd.ntmps24
  go_wp2
  all_goals
    go_ret
    refine ⟨ret_int ?_, rfl⟩
  · have h : (a / 9223372036854775808 == 1) = true := by assumption
    have := div_bd (18446744073709551615 - a) i.toNat (by omega)
    rw [not_u64 a h0 h1, not_u64 _ (by omega) (by omega)]
    unfold sraV; rw [if_pos (by simp at h; omega), show (18446744073709551616 : Int) - 1 - a = 18446744073709551615 - a by omega]; omega
  · have h : (a / 9223372036854775808 == 1) = false := by assumption
    unfold sraV; rw [if_neg (by simp at h; omega)]
theorem ss32_w (a i : Int) (h0 : 0 ≤ a) (h1 : a < 4294967296) (hi : 0 ≤ i) (hi2 : i < 32) (w : World) :
    Calls Tryd.prog 23 #[.int .u32 a, .int .u32 i, .int .u32 32] w fun e w' => e = .returned (.int .u32 (sraV 4294967296 a i.toNat)) ∧ w = w' := by
  go_enter Tryd.func23, Tryd.ntmps23
  go_wp2
  all_goals
    go_ret
    refine ⟨ret_int ?_, rfl⟩
  · have h : (a / 2147483648 == 1) = true := by assumption
    have := div_bd (4294967295 - a) i.toNat (by omega)
    rw [not_u32 a h0 h1, not_u32 _ (by omega) (by omega)]
    unfold sraV; rw [if_pos (by simp at h; omega), show (4294967296 : Int) - 1 - a = 4294967295 - a by omega]; omega
  · have h : (a / 2147483648 == 1) = false := by assumption
    unfold sraV; rw [if_neg (by simp at h; omega)]
theorem turn64_w (fn a i : Int) (h0 : 0 ≤ a) (h1 : a < 18446744073709551616) (hi : 0 ≤ i) (hi2 : i < 18446744073709551616) (w : World) :
    Calls Tryd.prog 20 #[.int .i64 fn, .int .u64 a, .int .u64 i, .int .u64 64] w fun e w' => e = .returned (.tuple #[.int .u64 (turnV 18446744073709551616 64 fn a i), .bool (turnOk fn)]) ∧ w = w' := by
  go_enter Tryd.func20, Tryd.ntmps20
  go_wp2_with (go_at_call 24; refine (ss64_w _ _ (by omega) (by omega) (by omega) (by omega) _).mono ?_; rintro e w' ⟨rfl, rfl⟩)
  all_goals
    go_ret2
    refine ⟨ret_two ?_ ?_, rfl⟩
    all_goals simp_all [turnV, turnOk, IntKind.wrap_u64]
theorem turn32_w (fn a i : Int) (h0 : 0 ≤ a) (h1 : a < 4294967296) (hi : 0 ≤ i) (hi2 : i < 4294967296) (w : World) :
    Calls Tryd.prog 19 #[.int .i64 fn, .int .u32 a, .int .u32 i, .int .u32 32] w fun e w' => e = .returned (.tuple #[.int .u32 (turnV 4294967296 32 fn a i), .bool (turnOk fn)]) ∧ w = w' := by
  go_enter Tryd.func19, Tryd.ntmps19
  go_wp2_with (go_at_call 23; refine (ss32_w _ _ (by omega) (by omega) (by omega) (by omega) _).mono ?_; rintro e w' ⟨rfl, rfl⟩)
  all_goals
    go_ret2
    refine ⟨ret_two ?_ ?_, rfl⟩
    all_goals simp_all [turnV, turnOk, IntKind.wrap, IntKind.bits, IntKind.signed]
theorem cm_w (fn a i : Int) (h0 : 0 ≤ a) (h1 : a < 18446744073709551616) (hi : 0 ≤ i) (hi2 : i < 18446744073709551616) (w : World) :
    Calls Tryd.prog 21 #[.int .i64 fn, .int .u64 a, .int .u64 i] w fun e w' => e = .returned (.tuple #[.int .u64 (cmV fn a i), .bool (cmOk fn)]) ∧ w = w' := by
  have e1 := sg_wrap a h0 h1
  have e2 := sg_wrap i hi hi2
  have E1 := Lib.hid e1
  have E2 := Lib.hid e2
  clear e1 e2
  go_enter Tryd.func21, Tryd.ntmps21
  go_wp2
  all_goals
    go_ret2
    have e1 := E1.out
    have e2 := E2.out
    clear E1 E2
    refine ⟨ret_two ?_ ?_, rfl⟩
    all_goals simp_all [cmV, cmOk]
theorem br_w (fn a i : Int) (h0 : 0 ≤ a) (h1 : a < 18446744073709551616) (hi : 0 ≤ i) (hi2 : i < 18446744073709551616) (w : World) :
    Calls Tryd.prog 6 #[.int .i64 fn, .int .u64 a, .int .u64 i] w fun e w' => e = .returned (.tuple #[.bool (brV fn a i), .bool (brOk fn)]) ∧ w = w' := by
  have e1 := sg_wrap a h0 h1
  have e2 := sg_wrap i hi hi2
  have E1 := Lib.hid e1
  have E2 := Lib.hid e2
  clear e1 e2
  go_enter Tryd.func6, Tryd.ntmps6
  go_wp2
  all_goals
    go_ret2
    have e1 := E1.out
    have e2 := E2.out
    clear E1 E2
    refine ⟨ret_bb ?_ ?_, rfl⟩
    all_goals simp_all [brV, brOk]
end Go.Proofs.YtglhfdamgblhdaaDoor
