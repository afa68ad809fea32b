/-
  Contracts of capops' small functions: Sealed, open, taggedIf, permits, base, span, inOrder, one; and of capenc's Number and Root, as layer 5 calls them. Bounds' fields are in their places; numbers are within their types.
-/
import Derived.Test.YtikibfpfieoabaaBM
import Derived.Test.YtikibfpfieoabaaCapEq
namespace Go.Proofs.Ytikibfpfieoabaa
open Go.ChangeShapes Go.WideShapes Go.ChangeAt Go.RowKit
set_option linter.unusedVariables false
set_option linter.unusedSimpArgs false

/-- Bounds' fields in their places. -/
structure Fld (e b t a : Int) : Prop where
  e0 : 0 ≤ e
  e1 : e ≤ 52
  b0 : 0 ≤ b
  b1 : b < 16384
  t0 : 0 ≤ t
  t1 : t < 4096
  a0 : 0 ≤ a
  a1 : a < 18446744073709551616
theorem Fld.at {e b t a x : Int} (h : Fld e b t a) (x0 : 0 ≤ x) (x1 : x < 18446744073709551616) : Fld e b t x := ⟨h.e0, h.e1, h.b0, h.b1, h.t0, h.t1, x0, x1⟩
def sealedB (ty : Int) : Bool := !(ty == 262143)
def openB (tg : Bool) (ty : Int) : Bool := tg && (ty == 262143)
/-- Are all of k's permissions pe's? -/
def perB (pe k : Int) : Bool := bits .andNot .i64 k pe == 0
def spT (a n : Int) : Int := (a + n) % 18446744073709551616
def spO (a n : Int) : Bool := decide (18446744073709551616 ≤ a + n)
def ordB (b t : Int) (o : Bool) : Bool := o || decide (b ≤ t)

theorem fld_tag (a0 : Bool) (a1 a2 a3 a4 a5 a6 : Int) (a7 : Bool) (a8 : Int) (w : World) : (Instr.field 24 (.agg #[.bool a0, .int .i64 a1, .int .i64 a2, .int .i64 a3, .int .i64 a4, .int .i64 a5, .int .i64 a6, .bool a7, .int .u64 a8]) 0).run Try.prog w = .ok (.bool a0) w := by
  simp [Instr.field, run_underlying Try.underlying24, part, go_sem, Result.andThen, asAgg]
theorem number_w (n : Int) (w : World) :
    Calls Try.prog 50 #[.int .u64 n] w fun e' w' => e' = .returned (.agg #[.bool false, .int .i64 0, .int .i64 262143, .int .i64 0, .int .i64 52, .int .i64 0, .int .i64 0, .bool true, .int .u64 n]) ∧ Kp w w' := by
  go_enter Try.func50, Try.ntmps50
  go_wp2
  exact bodyPost_ret (v := .agg #[.bool false, .int .i64 0, .int .i64 262143, .int .i64 0, .int .i64 52, .int .i64 0, .int .i64 0, .bool true, .int .u64 n]) (by simp [results, Try.results50, go_sem]) rfl ⟨rfl, by (repeat' (first | with_reducible refine Kp.setCell ?_ ?_ _ | with_reducible refine Kp.allocs ?_ _ _)); all_goals first | exact Kp.refl w | (dsimp only; omega)⟩
end Go.Proofs.Ytikibfpfieoabaa
