/-
  What the law of less needs besides: ranges that are not unlike; a field's value; what is built, moved, laid is no more. Bounds' fields are in their places.
-/
import Derived.Test.YtddgmbfngbobgaaCKnown
import Derived.Test.YtddgmbfngbobgaaCLess
import Derived.Test.YtddgmbfngbobgaaCLessF
import Derived.Test.YtddgmbfngbobgaaCFrom
import Derived.Test.YtddgmbfngbobgaaCBuild
namespace Go.Proofs.Ytddgmbfngbobgaa
open Go.ChangeShapes Go.WideShapes Go.ChangeAt Go.RowKit
set_option linter.unusedVariables false
set_option linter.unusedSimpArgs false

theorem range_neq (b t : Int) (o : Bool) (w : World) :
    (binOp .neq 40 (.agg #[.int .u64 b, .int .u64 t, .bool o]) (.agg #[.int .u64 b, .int .u64 t, .bool o])).run Try.prog w = .ok (.bool false) w := by
  simp [go_sem]
theorem fld_pe (a0 : Bool) (a1 a2 a3 a4 a5 a6 : Int) (a7 : Bool) (a8 : Int) (w : World) : (Instr.field 24 (.agg #[.bool a0, .int .i64 a1, .int .i64 a2, .int .i64 a3, .int .i64 a4, .int .i64 a5, .int .i64 a6, .bool a7, .int .u64 a8]) 1).run Try.prog w = .ok (.int .i64 a1) w := by
  simp [Instr.field, run_underlying Try.underlying24, part, go_sem, Result.andThen, asAgg]
theorem made_bd (a n : Int) : (0 ≤ madeB a n ∧ madeB a n < 18446744073709551616) ∧ 0 ≤ madeT a n ∧ madeT a n < 18446744073709551616 := ⟨ofB_bd _ _ _, ofT_bd _ _ _ _ _⟩
/-- What is laid, and has a tag, holds its address; it is as long as was asked for, and just so if that was asked. -/
theorem bound_has (tg : Bool) (ty e b t : Int) (g : Bool) (a n : Int) (x : Bool) (a0 : 0 ≤ a) (a1 : a < 18446744073709551616) (n0 : 0 ≤ n) (n1 : n < 18446744073709551616) (h : boundB tg ty e b t g a n x = true) :
    inB (madeB a n) (madeT a n) (madeO a n) a 0 = true ∧ decide (lenV (madeB a n) (madeT a n) (madeO a n) < n) = false ∧ (x = true → lenV (madeB a n) (madeT a n) (madeO a n) = n) := by
  unfold boundB at h
  rw [Bool.and_eq_true, Bool.and_eq_true, Bool.and_eq_true] at h
  obtain ⟨⟨_, hk, _⟩, hj⟩ := h
  have hm := made_bd a n
  unfold askB at hk
  unfold justB at hj
  generalize madeB a n = B at *
  generalize madeT a n = T at *
  generalize madeO a n = O at *
  have hs : topN (spT a n) (spO a n) = a + n := by
    unfold topN spT spO wN b01
    by_cases h64 : 18446744073709551616 ≤ a + n
    · simp [h64]; omega
    · simp [h64]; omega
  simp only [withinB, ltB, Bool.and_eq_true, Bool.not_eq_true', decide_eq_true_eq, decide_eq_false_iff_not] at hk
  rw [hs] at hk
  refine ⟨?_, ?_, ?_⟩
  · simp only [inB, ltB, Bool.and_eq_true, Bool.not_eq_true', decide_eq_true_eq, decide_eq_false_iff_not]; omega
  · simp only [decide_eq_false_iff_not]
    unfold lenV
    (repeat' split) <;> omega
  · rintro rfl
    simp only [Bool.not_true, Bool.false_or] at hj
    obtain ⟨rfl, rfl, rfl⟩ := (range_iff _ _ _ _ _ _).1 hj
    unfold lenV
    rw [hs]
    (repeat' split) <;> omega
end Go.Proofs.Ytddgmbfngbobgaa
