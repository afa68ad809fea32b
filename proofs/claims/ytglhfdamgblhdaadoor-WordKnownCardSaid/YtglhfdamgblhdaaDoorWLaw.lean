/-
  Contracts of word.Alu and of the laws' own helpers alu, branch, known: what they return for any numbers; the world stays.
-/
import Derived.Test.YtglhfdamgblhdaaDoorWord
namespace Go.Proofs.YtglhfdamgblhdaaDoor
open Go.ChangeShapes Go.WideShapes Go.ChangeAt Go.RowKit
set_option linter.unusedVariables false
set_option linter.unusedSimpArgs false
theorem alu_w (fn : Int) (wide : Bool) (a b : Int) (h0 : 0 ≤ a) (h1 : a < 18446744073709551616) (hb0 : 0 ≤ b) (hb1 : b < 18446744073709551616) (w : World) :
    Calls Tryd.prog 13 #[.int .i64 fn, .bool wide, .int .u64 a, .int .u64 b] w fun e w' => e = .returned (.tuple #[.int .u64 (aluV fn wide a b), .bool (aluOk fn wide)]) ∧ w = w' := by
  cases wide
  · by_cases ht : turnOk fn = true
    · go_enter Tryd.func13, Tryd.ntmps13
      go_wp2_with (first | (go_at_call 20; refine (turn64_w _ _ _ (by omega) (by omega) (by omega) (by omega) _).mono ?_; rintro e w' ⟨rfl, rfl⟩) | (go_at_call 21; refine (cm_w _ _ _ (by omega) (by omega) (by omega) (by omega) _).mono ?_; rintro e w' ⟨rfl, rfl⟩))
      all_goals (go_ret2; refine ⟨ret_two ?_ ?_, rfl⟩ <;> simp_all [aluV, aluOk])
    · have ht2 : turnOk fn = false := by simpa using ht
      clear ht
      go_enter Tryd.func13, Tryd.ntmps13
      go_wp2_with (first | (go_at_call 20; refine (turn64_w _ _ _ (by omega) (by omega) (by omega) (by omega) _).mono ?_; rintro e w' ⟨rfl, rfl⟩) | (go_at_call 21; refine (cm_w _ _ _ (by omega) (by omega) (by omega) (by omega) _).mono ?_; rintro e w' ⟨rfl, rfl⟩))
      all_goals (go_ret2; refine ⟨ret_two ?_ ?_, rfl⟩ <;> simp_all [aluV, aluOk])
  · have z := turnV_bd 4294967296 32 fn (a % 4294967296) (b % 4294967296) (by omega) (by omega) (by omega)
    go_enter Tryd.func13, Tryd.ntmps13
    go_wp2_with (first | (go_at_call 19; refine (turn32_w _ _ _ (by omega) (by omega) (by omega) (by omega) _).mono ?_; rintro e w' ⟨rfl, rfl⟩) | (go_at_call 10; refine (ext_w _ _ (by omega) (by omega) _).mono ?_; rintro e w' ⟨rfl, rfl⟩))
    all_goals (go_ret2; refine ⟨ret_two ?_ ?_, rfl⟩ <;> simp_all [aluV, aluOk])
theorem lalu_w (fn : Int) (wide : Bool) (a b : Int) (h0 : 0 ≤ a) (h1 : a < 18446744073709551616) (hb0 : 0 ≤ b) (hb1 : b < 18446744073709551616) (w : World) :
    Calls Tryd.prog 14 #[.int .i64 fn, .bool wide, .int .u64 a, .int .u64 b] w fun e w' => e = .returned (.int .u64 (aluV fn wide a b)) ∧ w = w' := by
  go_enter Tryd.func14, Tryd.ntmps14
  go_wp2_with (go_at_call 13; refine (alu_w _ _ _ _ h0 h1 hb0 hb1 _).mono ?_; rintro e w' ⟨rfl, rfl⟩)
  go_ret
  exact ⟨rfl, rfl⟩
theorem lbr_w (fn a b : Int) (h0 : 0 ≤ a) (h1 : a < 18446744073709551616) (hb0 : 0 ≤ b) (hb1 : b < 18446744073709551616) (w : World) :
    Calls Tryd.prog 18 #[.int .i64 fn, .int .u64 a, .int .u64 b] w fun e w' => e = .returned (.bool (brV fn a b)) ∧ w = w' := by
  go_enter Tryd.func18, Tryd.ntmps18
  go_wp2_with (go_at_call 6; refine (br_w _ _ _ h0 h1 hb0 hb1 _).mono ?_; rintro e w' ⟨rfl, rfl⟩)
  go_ret
  exact ⟨rfl, rfl⟩
theorem k1 : aluV 0 true 2147483647 1 = 18446744071562067968 := by decide
theorem k2 : aluV 9 false 9223372036854775808 63 = 18446744073709551615 := by decide +kernel
theorem k3 : brV 4 18446744073709551615 0 = true := by decide
theorem k4 : extV 128 0 = 18446744073709551488 := by decide
theorem known_w (w : World) :
    Calls Tryd.prog 12 #[] w fun e w' => e = .returned (.bool true) ∧ w = w' := by
  have q1 := k1
  have q2 := k2
  have q3 := k3
  have q4 := k4
  go_enter Tryd.func12, Tryd.ntmps12
  go_wp2_with (first | (go_at_call 14; refine (lalu_w _ _ _ _ (by omega) (by omega) (by omega) (by omega) _).mono ?_; rintro e w' ⟨rfl, rfl⟩) | (go_at_call 18; refine (lbr_w _ _ _ (by omega) (by omega) (by omega) (by omega) _).mono ?_; rintro e w' ⟨rfl, rfl⟩) | (go_at_call 10; refine (ext_w _ _ (by omega) (by omega) _).mono ?_; rintro e w' ⟨rfl, rfl⟩))
  go_ret
  exact ⟨rfl, rfl⟩
end Go.Proofs.YtglhfdamgblhdaaDoor
