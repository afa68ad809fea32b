/-
  Contracts of word.Alu and of the laws' own helpers alu, branch, known: what they return for any numbers; the world stays.
-/
import Derived.Test.YtglhfdamgblhdaaWord
namespace Go.Proofs.Ytglhfdamgblhdaa
open Go.ChangeShapes Go.WideShapes Go.ChangeAt Go.RowKit
set_option linter.unusedVariables false
set_option linter.unusedSimpArgs false
theorem alu_w (fn : Int) (wide : Bool) (a b : Int) (h0 : 0 ≤ a) (h1 : a < 18446744073709551616) (hb0 : 0 ≤ b) (hb1 : b < 18446744073709551616) (w : World) :
    Calls Try.prog 7 #[.int .i64 fn, .bool wide, .int .u64 a, .int .u64 b] w fun e w' => e = .returned (.tuple #[.int .u64 (aluV fn wide a b), .bool (aluOk fn wide)]) ∧ w = w' := by
  cases wide
  · by_cases ht : turnOk fn = true
    · go_enter Try.func7, Try.ntmps7
      go_wp2_with (first | (go_at_call 14; refine (turn64_w _ _ _ (by omega) (by omega) (by omega) (by omega) _).mono ?_; rintro e w' ⟨rfl, rfl⟩) | (go_at_call 15; refine (cm_w _ _ _ (by omega) (by omega) (by omega) (by omega) _).mono ?_; rintro e w' ⟨rfl, rfl⟩))
      all_goals (go_ret2; refine ⟨ret_two ?_ ?_, rfl⟩ <;> simp_all [aluV, aluOk])
    · have ht2 : turnOk fn = false := by simpa using ht
      clear ht
      go_enter Try.func7, Try.ntmps7
      go_wp2_with (first | (go_at_call 14; refine (turn64_w _ _ _ (by omega) (by omega) (by omega) (by omega) _).mono ?_; rintro e w' ⟨rfl, rfl⟩) | (go_at_call 15; refine (cm_w _ _ _ (by omega) (by omega) (by omega) (by omega) _).mono ?_; rintro e w' ⟨rfl, rfl⟩))
      all_goals (go_ret2; refine ⟨ret_two ?_ ?_, rfl⟩ <;> simp_all [aluV, aluOk])
  · have z := turnV_bd 4294967296 32 fn (a % 4294967296) (b % 4294967296) (by omega) (by omega) (by omega)
    go_enter Try.func7, Try.ntmps7
    go_wp2_with (first | (go_at_call 13; refine (turn32_w _ _ _ (by omega) (by omega) (by omega) (by omega) _).mono ?_; rintro e w' ⟨rfl, rfl⟩) | (go_at_call 11; refine (ext_w _ _ (by omega) (by omega) _).mono ?_; rintro e w' ⟨rfl, rfl⟩))
    all_goals (go_ret2; refine ⟨ret_two ?_ ?_, rfl⟩ <;> simp_all [aluV, aluOk])
theorem lalu_w (fn : Int) (wide : Bool) (a b : Int) (h0 : 0 ≤ a) (h1 : a < 18446744073709551616) (hb0 : 0 ≤ b) (hb1 : b < 18446744073709551616) (w : World) :
    Calls Try.prog 10 #[.int .i64 fn, .bool wide, .int .u64 a, .int .u64 b] w fun e w' => e = .returned (.int .u64 (aluV fn wide a b)) ∧ w = w' := by
  go_enter Try.func10, Try.ntmps10
  go_wp2_with (go_at_call 7; refine (alu_w _ _ _ _ h0 h1 hb0 hb1 _).mono ?_; rintro e w' ⟨rfl, rfl⟩)
  go_ret
  exact ⟨rfl, rfl⟩
theorem lbr_w (fn a b : Int) (h0 : 0 ≤ a) (h1 : a < 18446744073709551616) (hb0 : 0 ≤ b) (hb1 : b < 18446744073709551616) (w : World) :
    Calls Try.prog 12 #[.int .i64 fn, .int .u64 a, .int .u64 b] w fun e w' => e = .returned (.bool (brV fn a b)) ∧ w = w' := by
  go_enter Try.func12, Try.ntmps12
  go_wp2_with (go_at_call 22; refine (br_w _ _ _ h0 h1 hb0 hb1 _).mono ?_; rintro e w' ⟨rfl, rfl⟩)
  go_ret
  exact ⟨rfl, rfl⟩
theorem k1 : aluV 0 true 2147483647 1 = 18446744071562067968 := by decide
theorem k2 : aluV 9 false 9223372036854775808 63 = 18446744073709551615 := by decide +kernel
theorem k3 : brV 4 18446744073709551615 0 = true := by decide
theorem k4 : extV 128 0 = 18446744073709551488 := by decide
theorem known_w (w : World) :
    Calls Try.prog 9 #[] w fun e w' => e = .returned (.bool true) ∧ w = w' := by
  have q1 := k1
  have q2 := k2
  have q3 := k3
  have q4 := k4
  go_enter Try.func9, Try.ntmps9
  go_wp2_with (first | (go_at_call 10; refine (lalu_w _ _ _ _ (by omega) (by omega) (by omega) (by omega) _).mono ?_; rintro e w' ⟨rfl, rfl⟩) | (go_at_call 12; refine (lbr_w _ _ _ (by omega) (by omega) (by omega) (by omega) _).mono ?_; rintro e w' ⟨rfl, rfl⟩) | (go_at_call 11; refine (ext_w _ _ (by omega) (by omega) _).mono ?_; rintro e w' ⟨rfl, rfl⟩))
  go_ret
  exact ⟨rfl, rfl⟩
end Go.Proofs.Ytglhfdamgblhdaa
