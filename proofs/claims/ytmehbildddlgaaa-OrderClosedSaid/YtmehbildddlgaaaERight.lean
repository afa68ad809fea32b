/-
  Contracts of capenc's fits, rightBounds and Right: whether a capability's fields are in their places. No condition but that fields are numbers of 64 bits.
-/
import Derived.Test.YtmehbildddlgaaaEBits
namespace Go.Proofs.Ytmehbildddlgaaa
open Go.ChangeShapes Go.WideShapes Go.ChangeAt Go.RowKit
set_option linter.unusedVariables false
set_option linter.unusedSimpArgs false

/-- From 0 up to ahead of m. -/
def fitB (m f : Int) : Bool := decide (0 ≤ f) && decide (f < m)
theorem fitB_div (f : Int) (k : Nat) : (f / 2 ^ k == 0) = fitB (2 ^ k) f := by
  have hk := pow_pos2 k
  rw [Bool.eq_iff_iff]
  simp only [fitB, beq_iff_eq, Bool.and_eq_true, decide_eq_true_eq]
  constructor
  · intro h
    have h1 := Int.emod_add_mul_ediv f (2 ^ k)
    have h2 := Int.emod_nonneg f (Int.ne_of_gt hk)
    have h3 := Int.emod_lt_of_pos f hk
    rw [h, Int.mul_zero] at h1
    omega
  · rintro ⟨h1, h2⟩
    exact Int.ediv_eq_zero_of_lt h1 h2
/-- Bounds' fields are in their places. -/
def rbB (e b t : Int) (g : Bool) : Bool := fitB 16384 b && fitB 4096 t && (if g then decide (0 ≤ e) && decide (e ≤ 52) && decide (b % 8 = 0) && decide (t % 8 = 0) else decide (e = 0))
def rightB (pe ty mo e b t : Int) (g : Bool) : Bool := fitB 65536 pe && fitB 262144 ty && fitB 2 mo && rbB e b t g
theorem efits_w (f k m : Int) (hm : (2 : Int) ^ k.toNat = m) (k0 : 0 ≤ k) (k1 : k ≤ 30) (f0 : -9223372036854775808 ≤ f) (f1 : f < 9223372036854775808) (w : World) :
    Calls Try.prog 30 #[.int .i64 f, .int .u64 k] w fun e w' => e = .returned (.bool (fitB m f)) ∧ w = w' := by
  have H := Lib.hid hm
  clear hm
  go_enter Try.func30, Try.ntmps30
  go_wp2
  go_ret
  refine ⟨ret_bool ?_, rfl⟩
  rw [← H.out]; exact fitB_div f k.toNat
theorem low_both (b t : Int) (b0 : 0 ≤ b) (b1 : b < 16384) (t0 : 0 ≤ t) (t1 : t < 4096) : (bits .and .i64 (bits .or .i64 b t) 7 == 0) = (decide (b % 8 = 0) && decide (t % 8 = 0)) := by
  have h := or_bd b t b0 (by omega) t0 (by omega)
  have h2 := or_low b t b0 (by omega) t0 (by omega)
  rw [and_i7 _ h.1 (by omega), Bool.eq_iff_iff]
  simpa using h2
theorem rb_w (tg : Bool) (pe ty mo e b t : Int) (g : Bool) (a : Int) (e0 : -9223372036854775808 ≤ e) (e1 : e < 9223372036854775808) (b0 : -9223372036854775808 ≤ b) (b1 : b < 9223372036854775808) (t0 : -9223372036854775808 ≤ t) (t1 : t < 9223372036854775808) (w : World) :
    Calls Try.prog 31 #[.agg #[.bool tg, .int .i64 pe, .int .i64 ty, .int .i64 mo, .int .i64 e, .int .i64 b, .int .i64 t, .bool g, .int .u64 a]] w fun e' w' => e' = .returned (.bool (rbB e b t g)) ∧ Kp w w' := by
  have K := (Kp.refl w).allocs #[.bool tg, .int .i64 pe, .int .i64 ty, .int .i64 mo, .int .i64 e, .int .i64 b, .int .i64 t, .bool g, .int .u64 a] 25
  have H1 : fitB 16384 b = true → 0 ≤ b ∧ b < 16384 := by simp [fitB]
  have H2 : fitB 4096 t = true → 0 ≤ t ∧ t < 4096 := by simp [fitB]
  have HH := Lib.hid (And.intro H1 H2)
  clear H1 H2
  cases h1 : fitB 16384 b <;> cases h2 : fitB 4096 t <;> cases g
  all_goals
    go_enter Try.func31, Try.ntmps31
    go_wp2_with (first
      | (go_at_call 30; (with_reducible refine (efits_w b 14 16384 (by decide) (by omega) (by omega) b0 b1 _).mono ?_); rintro e' w1 ⟨rfl, rfl⟩)
      | (go_at_call 30; (with_reducible refine (efits_w t 12 4096 (by decide) (by omega) (by omega) t0 t1 _).mono ?_); rintro e' w1 ⟨rfl, rfl⟩))
  all_goals
    go_ret
    refine ⟨ret_bool ?_, K⟩
    first
      | (simp [rbB, h1, h2]; done)
      | (rw [low_both b t (HH.out.1 h1).1 (HH.out.1 h1).2 (HH.out.2 h2).1 (HH.out.2 h2).2]; simp [rbB, h1, h2, *]; done)
      | (have e2 : decide (0 ≤ e) && decide (e ≤ 52) = false := by simp; omega
         simp only [rbB, e2, if_true, Bool.false_and, Bool.and_false]; done)
      | (rw [Bool.eq_iff_iff]; simp [rbB, h1, h2]; done)
      | (simp [rbB, h1, h2]; omega)
theorem right_w (tg : Bool) (pe ty mo e b t : Int) (g : Bool) (a : Int) (p0 : -9223372036854775808 ≤ pe) (p1 : pe < 9223372036854775808) (y0 : -9223372036854775808 ≤ ty) (y1 : ty < 9223372036854775808) (o0 : -9223372036854775808 ≤ mo) (o1 : mo < 9223372036854775808)
    (e0 : -9223372036854775808 ≤ e) (e1 : e < 9223372036854775808) (b0 : -9223372036854775808 ≤ b) (b1 : b < 9223372036854775808) (t0 : -9223372036854775808 ≤ t) (t1 : t < 9223372036854775808) (w : World) :
    Calls Try.prog 10 #[.agg #[.bool tg, .int .i64 pe, .int .i64 ty, .int .i64 mo, .int .i64 e, .int .i64 b, .int .i64 t, .bool g, .int .u64 a]] w fun e' w' => e' = .returned (.bool (rightB pe ty mo e b t g)) ∧ Kp w w' := by
  cases h1 : fitB 65536 pe <;> cases h2 : fitB 262144 ty <;> cases h3 : fitB 2 mo
  all_goals
    go_enter Try.func10, Try.ntmps10
    go_wp2_with (first
      | (go_at_call 30; (with_reducible refine (efits_w pe 16 65536 (by decide) (by omega) (by omega) p0 p1 _).mono ?_); rintro e' w1 ⟨rfl, rfl⟩)
      | (go_at_call 30; (with_reducible refine (efits_w ty 18 262144 (by decide) (by omega) (by omega) y0 y1 _).mono ?_); rintro e' w1 ⟨rfl, rfl⟩)
      | (go_at_call 30; (with_reducible refine (efits_w mo 1 2 (by decide) (by omega) (by omega) o0 o1 _).mono ?_); rintro e' w1 ⟨rfl, rfl⟩)
      | (go_at_call 31; (with_reducible refine (rb_w tg pe ty mo e b t g a e0 e1 b0 b1 t0 t1 _).mono ?_); rintro e' w1 ⟨rfl, q⟩; have KW := Lib.hid (Kp.trans ((Kp.refl w).allocs _ _) q); clear q))
  all_goals
    go_ret
    refine ⟨ret_bool ?_, ?_⟩
  all_goals first
    | (simp [rightB, h1, h2, h3]; done)
    | exact (Kp.refl w).allocs _ _
    | exact KW.out
end Go.Proofs.Ytmehbildddlgaaa
