/-
  Contracts for layer 4's laws: what is packed is unpacked as it was, under one name for the number. Numbers are within their types.
-/
import Derived.Test.YtmakfbpflfdkkaaEWorks
namespace Go.Proofs.Ytmakfbpflfdkkaa
open Go.ChangeShapes Go.WideShapes Go.ChangeAt Go.RowKit
set_option linter.unusedVariables false
set_option linter.unusedSimpArgs false

theorem pack_n {pe ty mo e b t : Int} {g : Bool} (h : RightP pe ty mo e b t g) (m : Int) (hm : xk (bitsV pe ty mo e b t g) = m) (tg : Bool) (a : Int) (w : World) :
    Calls Try.prog 15 #[.agg #[.bool tg, .int .i64 pe, .int .i64 ty, .int .i64 mo, .int .i64 e, .int .i64 b, .int .i64 t, .bool g, .int .u64 a]] w fun e' w' => e' = .returned (.tuple #[.int .u64 a, .int .u64 m]) ∧ Kp w w' := by
  subst hm; exact pack_w tg pe ty mo e b t g a h w
theorem unpack_n {pe ty mo e b t : Int} {g : Bool} (h : RightP pe ty mo e b t g) (m : Int) (hm : xk (bitsV pe ty mo e b t g) = m) (tg : Bool) (a : Int) (w : World) :
    Calls Try.prog 17 #[.bool tg, .int .u64 a, .int .u64 m] w fun e' w' => e' = .returned (.agg #[.bool tg, .int .i64 pe, .int .i64 ty, .int .i64 mo, .int .i64 e, .int .i64 b, .int .i64 t, .bool g, .int .u64 a]) ∧ Kp w w' := by
  subst hm
  have hb := bits_bd h
  have c := unpack_w tg a (xk (bitsV pe ty mo e b t g)) (xk_bd _).1 (xk_bd _).2 w
  rw [xk_xk _ hb.1 (by omega)] at c
  obtain ⟨f1, f2, f3, f4, f5, f6, f7⟩ := f_bits h
  rw [f1, f2, f3, f4, f5, f6, f7] at c
  exact c
theorem right_n {pe ty mo e b t : Int} {g : Bool} (r : Bool) (hr : rightB pe ty mo e b t g = r) (tg : Bool) (a : Int) (p0 : -9223372036854775808 ≤ pe) (p1 : pe < 9223372036854775808) (y0 : -9223372036854775808 ≤ ty) (y1 : ty < 9223372036854775808) (o0 : -9223372036854775808 ≤ mo) (o1 : mo < 9223372036854775808)
    (e0 : -9223372036854775808 ≤ e) (e1 : e < 9223372036854775808) (b0 : -9223372036854775808 ≤ b) (b1 : b < 9223372036854775808) (t0 : -9223372036854775808 ≤ t) (t1 : t < 9223372036854775808) (w : World) :
    Calls Try.prog 12 #[.agg #[.bool tg, .int .i64 pe, .int .i64 ty, .int .i64 mo, .int .i64 e, .int .i64 b, .int .i64 t, .bool g, .int .u64 a]] w fun e' w' => e' = .returned (.bool r) ∧ Kp w w' := by
  subst hr; exact right_w tg pe ty mo e b t g a p0 p1 y0 y1 o0 o1 e0 e1 b0 b1 t0 t1 w
theorem right_y {pe ty mo e b t : Int} {g : Bool} (h : RightP pe ty mo e b t g) (tg : Bool) (a : Int) (w : World) :
    Calls Try.prog 12 #[.agg #[.bool tg, .int .i64 pe, .int .i64 ty, .int .i64 mo, .int .i64 e, .int .i64 b, .int .i64 t, .bool g, .int .u64 a]] w fun e' w' => e' = .returned (.bool true) ∧ Kp w w' := by
  have h2 := h
  obtain ⟨p0, p1, y0, y1, o0, o1, b0, b1, t0, t1, e0, e1, no, b8, t8⟩ := h
  exact right_n true (rightB_of h2) tg a (by omega) (by omega) (by omega) (by omega) (by omega) (by omega) (by omega) (by omega) (by omega) (by omega) (by omega) (by omega) w
end Go.Proofs.Ytmakfbpflfdkkaa
