/-
  Contracts of package bounds' numbers of 65 bits (wide): sums, shifts, comparison, a range's top; each leaves what was there as it was. Numbers are within their types; the upper part is 0 or 1.
-/
import Derived.Test.YtkddgjaflcjhiaaKp
import Derived.Test.YtkddgjaflcjhiaaBMath
import Derived.Laws.Externs
import Derived.IntWalk
namespace Go.Proofs.Ytkddgjaflcjhiaa
open Go.ChangeShapes Go.WideShapes Go.ChangeAt Go.RowKit
set_option linter.unusedVariables false
set_option linter.unusedSimpArgs false

theorem ret_wide {a b c d : Int} (h : a = b) (h2 : c = d) : Ending.returned (.agg #[.int .u64 a, .int .u64 c]) = .returned (.agg #[.int .u64 b, .int .u64 d]) := by rw [h, h2]

def ltB (a b : Int) : Bool := decide (a < b)

theorem topOf_w (b t : Int) (o : Bool) (w : World) :
    Calls Try.prog 50 #[.agg #[.int .u64 b, .int .u64 t, o]] w fun e w' => e = .returned (.agg #[.int .u64 (b01 o), .int .u64 t]) ∧ Kp w w' := by
  cases o
  · go_enter Try.func50, Try.ntmps50
    go_wp2
    exact bodyPost_ret (v := .agg #[.int .u64 0, .int .u64 t]) (by simp [results, Try.results50, go_sem]) rfl ⟨rfl, ((Kp.refl w).allocs _ _).allocs _ _⟩
  · go_enter Try.func50, Try.ntmps50
    go_wp2
    exact bodyPost_ret (v := .agg #[.int .u64 1, .int .u64 t]) (by simp [results, Try.results50, go_sem]) rfl ⟨rfl, ((Kp.refl w).allocs _ _).allocs _ _⟩
theorem up_w (h l k : Int) (h0 : 0 ≤ h) (h1 : h < 2) (l0 : 0 ≤ l) (l1 : l < 18446744073709551616) (k0 : 0 ≤ k) (k1 : k ≤ 66) (w : World) :
    Calls Try.prog 79 #[.agg #[.int .u64 h, .int .u64 l], .int .u64 k] w fun e w' => e = .returned (.agg #[.int .u64 (wH (wN h l * 2 ^ k.toNat)), .int .u64 (wL (wN h l * 2 ^ k.toNat))]) ∧ Kp w w' := by
  have E1 := Lib.hid (up_hi h l k h0 h1 l0 l1 k0 k1)
  have E2 := Lib.hid (up_lo l k l0 l1 h k0 k1)
  go_enter Try.func79, Try.ntmps79
  go_wp2
  exact bodyPost_ret (by simp [results, Try.results79, go_sem]) rfl ⟨ret_wide E1.out E2.out, ((Kp.refl w).allocs _ _).allocs _ _⟩
theorem down_w (h l k : Int) (h0 : 0 ≤ h) (h1 : h < 2) (l0 : 0 ≤ l) (l1 : l < 18446744073709551616) (k0 : 0 ≤ k) (k1 : k ≤ 63) (w : World) :
    Calls Try.prog 80 #[.agg #[.int .u64 h, .int .u64 l], .int .u64 k] w fun e w' => e = .returned (.agg #[.int .u64 (wH (wN h l / 2 ^ k.toNat)), .int .u64 (wL (wN h l / 2 ^ k.toNat))]) ∧ Kp w w' := by
  have E1 := Lib.hid (down_all h l k h0 h1 l0 l1 k0 k1)
  go_enter Try.func80, Try.ntmps80
  go_wp2
  exact bodyPost_ret (by simp [results, Try.results80, go_sem]) rfl ⟨ret_wide E1.out.1 E1.out.2, ((Kp.refl w).allocs _ _).allocs _ _⟩
theorem add64_run (x y : Int) (x0 : 0 ≤ x) (y0 : 0 ≤ y) (w : World) :
    (callFunc 46 #[.int .u64 x, .int .u64 y, .int .u64 0]).run Try.prog w = .ok (.value (.tuple #[.int .u64 ((x + y) % 18446744073709551616), .int .u64 ((x + y) / 18446744073709551616)])) w := by
  rw [run_callFunc_extern Try.func46 (by kernel_rfl) (by kernel_rfl) (by kernel_rfl) (e := add64Entry) (by kernel_rfl), run_add64 x y 0 x0 y0 (by omega) (by omega)]
  simp only [Result.andThen, Int.add_zero]
theorem plus_w (h l i m : Int) (h0 : 0 ≤ h) (h1 : h < 2) (l0 : 0 ≤ l) (l1 : l < 18446744073709551616) (i0 : 0 ≤ i) (i1 : i < 2) (m0 : 0 ≤ m) (m1 : m < 18446744073709551616) (w : World) :
    Calls Try.prog 43 #[.agg #[.int .u64 h, .int .u64 l], .agg #[.int .u64 i, .int .u64 m]] w fun e w' => e = .returned (.agg #[.int .u64 (wH (wN h l + wN i m)), .int .u64 (wL (wN h l + wN i m))]) ∧ Kp w w' := by
  go_enter Try.func43, Try.ntmps43
  go_wp2_with (simp only [add64_run l m l0 m0])
  exact bodyPost_ret (v := .agg #[.int .u64 ((h + i + (l + m) / 18446744073709551616) % 2), .int .u64 ((l + m) % 18446744073709551616)]) (by simp [results, Try.results43, go_sem]) rfl ⟨ret_wide (by unfold wH wN; omega) (by unfold wL wN; omega), (((Kp.refl w).allocs _ _).allocs _ _).allocs _ _⟩
theorem below_w (h l i m : Int) (h0 : 0 ≤ h) (h1 : h < 2) (l0 : 0 ≤ l) (l1 : l < 18446744073709551616) (i0 : 0 ≤ i) (i1 : i < 2) (m0 : 0 ≤ m) (m1 : m < 18446744073709551616) (w : World) :
    Calls Try.prog 51 #[.agg #[.int .u64 h, .int .u64 l], .agg #[.int .u64 i, .int .u64 m]] w fun e w' => e = .returned (.bool (ltB (wN h l) (wN i m))) ∧ Kp w w' := by
  go_enter Try.func51, Try.ntmps51
  go_wp2
  all_goals
    go_ret
    refine ⟨ret_bool ?_, ((Kp.refl w).allocs _ _).allocs _ _⟩
    simp_all only [bne_iff_ne, ne_eq, Bool.not_eq_true, bne_eq_false_iff_eq, ltB]
    unfold wN
    rw [decide_eq_decide]; omega
end Go.Proofs.Ytkddgjaflcjhiaa
